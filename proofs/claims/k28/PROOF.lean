import PyProof.Rows.All
import Wide.All
import OpenK.AllK
import Wide.FinOn
import KE.KExcSuper
import HandS.Base
import HandS.Call
import HandS.List
import HandS.Ends
import HandS.Exc
import HandS.ExcInit
import HandS.Words
import HandS.Lambda
import HandS.ExcField
import KE.GoesMore
import HandS.Iter
import HandS.Walk
import HandS.Text
import HandS.Strs
import PyProof.TupleOfSeq
import PyProof.Rows.StrFirst
import PyProof.StrLawsIn
import HandS.ForMost
import HandS.SortKw
import KE.DataMinMax
import KE.DatumOrd
import HandS.ForExc
import KE.KDictCopyH
import KE.KDictDisplayH
import PyProof.DictMoreH
import PyProof.Rows.TupTab
import HandS.TupLen
import PyProof.DictTable
import KE.KTupSum
import HandS.TupAny
import HandS.Nested
import PyProof.Cells
import HandS.Set
import HandS.FStr
import HandS.DictComp
import HandS.Dict
import HandS.Conv
import KE.KDictWalk
import PyProof.DictTruth
import HandS.IsInst
import HandS.EndTab
import HandS.Flow
import HandS.Wide
import HandS.Defaults
import HandS.MakeKw
import HandS.StrMore
import KE.RegKSuper
import PySem.Challenge.RW_pulsewright_k28_memory_of_rules
set_option Elab.async false
set_option linter.all false
set_option maxRecDepth 100000
set_option maxHeartbeats 4000000
namespace Pw
open PySem PySem.Spec PyProof.Rows L2

abbrev supScope (f : Str) : Scope := { kind := .function, names := [("self", .local), (f, .local), ("__class__", .free), ("super", .globalImplicit)], isGenerator := false, isCoroutine := false, more := [] }

/-- the body of such an __init__: super().__init__(msg); self.f = f -/
abbrev supBody (msg : Expr) (f : Str) (p0 p1 p2 p3 p4 p5 p6 p7 p8 : Pos) : List Stmt :=
  [.Expr (.Call (.Attribute (.Call (.Name "super" p0) [] [] p1) "__init__" p2) [msg] [] p3) p4,
   .Assign [.Attribute (.Name "self" p5) f p6] (.Name f p7) p8]

/-- its context -/
def supCx (P : Program) (w : World) (K : PySem.W.Frag) (mg : Str → Option Value) (base : Heap) (f : Str) (qual : Str) (fI cda cc : Addr) (A : Around) (outer : List Env) (s : Shared) (H : Hp) : Cx where
  prog := P
  w := w
  K := K
  mg := mg
  base := base
  A := A.deeper (PySem.W.ksEnv qual (supScope f) s.heap.objs.size fI (.ref cda) cc)
  N := ["self", f]
  s_0 := s
  H_0 := H
  env := PySem.W.ksEnv qual (supScope f) s.heap.objs.size fI (.ref cda) cc
  outer := outer
  stack := PySem.W.ksEnv qual (supScope f) s.heap.objs.size fI (.ref cda) cc :: outer
  ex := []
  fn := fun _ => false
  calm := true
  pn := []
  xe := fun _ _ => False

/-- what the written part says of the class at C, its __init__ at fI, the cell at cc, the code object at cda -/
structure SupC (P : Program) (K : PySem.W.Frag) (mg : Str → Option Value) (C fI cc cda : Addr) (f : Str) : Prop where
  oex : OexC K C
  noF : PySem.W.findIn K (.ref C) f = some none
  sub : PySem.W.mroIn K C (.ref C) = some true
  subVE : PySem.W.subIn K (.ref C) (.type "ValueError") = some true
  sup : PySem.W.ks_superIn K C C "__init__" = some (some (.builtin "ValueError.__init__"))
  op : PySem.W.nsIn K cStatics "thirdparty.any" = some none
  code : ∃ ccl cdd vs ccs file tf, K.lookup cda = some ⟨ccl, cdd, .fields vs, ccs⟩ ∧ vs[2]? = some (.str file tf) ∧ ((P.main.file : Str) == file) = true
  cell : ∃ cl cld csl, K.lookup cc = some ⟨cl, cld, .cell (some (.ref C)), csl⟩
  mgS : mg "super" = none
  topS : (P.main.scope.names.lookup ("super" : Str)).isSome = false

/-- the promise of the __init__: the new exception's dict holds the field -/
def spSup (C : Addr) (f : Str) (Okv : V → Prop) : Sp := fun vs H Q _ => ∃ (a : Addr) (v : V), vs = [.ref a, v] ∧ Okv v ∧ H a = some (exo a C none) ∧
  ∀ dx, H dx = none → dx ≠ a → Q .non (upd (upd H dx (exd dx [(f, v)])) a (exo a C (some dx)))

section
variable {P : Program} {w : World} {K : PySem.W.Frag} {mg : Str → Option Value} {base : Heap} {f qual : Str} {C fI cda cc : Addr}
theorem sup_start {A : Around} {outer : List Env} {s : Shared} {H : Hp} {h₁ : Heap} {a : Addr} {v : V} {u : Value} {tk : Nat} (hfs : (f == ("self" : Str)) = false) (hfc : (f == ("__class__" : Str)) = false) (T : SupC P K mg C fI cc cda f) (hd : A.handled = none) (e0 : Env0 P w K mg base A outer s H) (rv : RelV v u)
    (hns : h₁.Ns s.heap.objs.size (fun x => ([("self", Value.ref a), (f, u)] : List (Str × Value)).reverse.lookup x)) (kp : ∀ b o, s.heap.get? b = some o → h₁.get? b = some o) :
    Inv (supCx P w K mg base f qual fI cda cc A outer s H) [] [some (.ref a), some v] H { s with heap := h₁, toks := tk } := by
  obtain ⟨cl, cld, csl, hcell⟩ := T.cell
  have hcb : base.get? cc = some ⟨cl, cld, .cell (some (.ref C)), csl⟩ := e0.mod.kin _ _ hcell
  have hcs := e0.bs _ _ hcb
  have noA : ∀ b : Addr, b ∉ (supCx P w K mg base f qual fI cda cc A outer s H).ex := fun b z => absurd (show b ∈ ([] : List Addr) from z) (by simp)
  have only : ∀ {y : Str} {c : Addr}, ([("__class__", cc)] : List (Str × Addr)).lookup y = some c → y = "__class__" ∧ c = cc := fun {y c} e => by
    by_cases hy : y = "__class__"
    · subst hy
      have e2 : some cc = some c := e
      exact ⟨rfl, (Option.some.inj e2).symm⟩
    · have : (y == ("__class__" : Str)) = false := by simpa using hy
      simp [List.lookup, this] at e
  refine ⟨⟨e0.mod, rfl, rfl, rfl, Nat.le_refl _, fun y z c e1 e2 => ?_, fun y hy => ?_, fun y c z _ => ?_, fun _ => hd, Around.frames_deeper e0.frames, .inr ⟨rfl, rfl⟩, fun b z => absurd z (noA b), e0.bs, e0.bsz, fun b _ _ => noA b,
      fun b z => absurd z (noA b), e0.funs, e0.frf⟩,
    rfl, e0.bare, Un.kept kp, ⟨_, hns, fun i y v' e1 e2 e3 => ?_⟩, fun y c e => ?_, e0.hok.fresh (Nat.le_refl _), fun y c e => ?_, fun q hq => absurd (show q ∈ ([] : List (Addr × Obj)) ++ [] from hq) (by simp), e0.hok.kept kp, rfl⟩
  · exact (only e1).1.trans (only e2).1.symm
  · have hy : (supScope f).names.lookup y = some .cell ∨ (supScope f).names.lookup y = some .free := hy
    have : y = "__class__" := by
      by_cases h1 : y = "self"
      · subst h1
        rcases hy with h | h <;> cases h
      · by_cases h2 : y = f
        · subst h2
          have q1 : (y == ("self" : Str)) = false := hfs
          simp [List.lookup, q1] at hy
        · by_cases h3 : y = "__class__"
          · exact h3
          · have q1 : (y == ("self" : Str)) = false := by simpa using h1
            have q2 : (y == f) = false := by simpa using h2
            have q3 : (y == ("__class__" : Str)) = false := by simpa using h3
            by_cases h4 : y = "super"
            · subst h4
              simp [List.lookup, q1, q2, q3] at hy
            · have q4 : (y == ("super" : Str)) = false := by simpa using h4
              simp [List.lookup, q1, q2, q3, q4] at hy
    subst this
    exact ⟨cc, rfl⟩
  · have z : false = true := z
    cases z
  · match i, e1, e2 with
    | 0, e1, e2 =>
      have e1 : "self" = y := Option.some.inj e1
      have e2 : V.ref a = v' := Option.some.inj (Option.some.inj e2)
      subst e1
      subst e2
      refine ⟨_, rfl, .inl ⟨rfl, ?_⟩⟩
      have q : (("self" : Str) == f) = false := by
        have := hfs
        rw [beq_eq_false_iff_ne] at this ⊢
        exact this.symm
      simp [List.lookup, q]
    | 1, e1, e2 =>
      have e1 : f = y := Option.some.inj e1
      have e2 : v = v' := Option.some.inj (Option.some.inj e2)
      subst e1
      subst e2
      refine ⟨_, rv, .inl ⟨?_, by simp [List.lookup]⟩⟩
      show (supScope f).names.lookup f = some .local
      simp [List.lookup, hfs]
    | n + 2, e1, e2 => simp [supCx] at e1
  · obtain ⟨_, rfl⟩ := only e
    exact ⟨_, _, kp _ _ hcs.1, rfl⟩
  · obtain ⟨_, rfl⟩ := only e
    exact hcs.2

theorem fn_sup {k : Nat} {CX : CXT} {Okv : V → Prop} {name : Str} {ap : Arguments} {mv : List Expr} {pj : Pos} {dV kV doc pm ct oc : Value} {an od : Option Addr} {osl : Array (Option Value)} {p0 p1 p2 p3 p4 p5 p6 p7 p8 : Pos}
    (hfs : (f == ("self" : Str)) = false) (hfc : (f == ("__class__" : Str)) = false) (hfu : (f == ("super" : Str)) = false) (hfd : (f == ("__debug__" : Str)) = false) (hfcd : (f == ("__classdict__" : Str)) = false) (T : SupC P K mg C fI cc cda f)
    (hap : (ap.posonlyargs ++ ap.args).head?.map (·.arg) = some ("self" : Str))
    (lk : K.lookup fI = some ⟨oc, od, .func (PySem.W.ksFn name qual ap (supBody (.JoinedStr mv pj) f p0 p1 p2 p3 p4 p5 p6 p7 p8) (supScope f) dV kV doc pm an (.ref cda) ct cc), osl⟩) (hcd : PySem.W.codeIn K (.ref cda) qual = true)
    (hmsg : ∀ X : Cx, X.N = (["self", f] : List Str) → X.env.scope = supScope f → ∃ tm : TE, PE X (.JoinedStr mv pj) tm ∧ ∀ (a : Addr) (v : V) (H : Hp) (Q : VK), Okv v → (∀ z : Str, Q (.str z) H) → tm [some (.ref a), some v] H Q)
    {pl : Sem Bool} (he : ∀ env : Env, eval (.Call (.Attribute (.Call (.Name "super" p0) [] [] p1) "__init__" p2) [.JoinedStr mv pj] [] p3) env = (do
      let ov ← attributeBase (.Call (.Name "super" p0) [] [] p1) "__init__" env (eval (.Call (.Name "super" p0) [] [] p1) env)
      standAt p2.atName
      let (f, first) ← holding [ov] (getMethod ov "__init__" pl)
      callWith p3 f first (backTo p3 (starEach [.JoinedStr mv pj] env)) [])) :
    FnOk P w K mg base CX (k + 1) fI (PySem.W.ksFn name qual ap (supBody (.JoinedStr mv pj) f p0 p1 p2 p3 p4 p5 p6 p7 p8) (supScope f) dV kV doc pm an (.ref cda) ct cc) ["self", f] (spSup C f Okv) := by
  refine ⟨fun vs H Q E h => ?_, fun A outer s H args us vs Q E hr e0 hb r hsp => ?_⟩
  · obtain ⟨a, v, rfl, _⟩ := h
    rfl
  obtain ⟨a, v, rfl, hv, ha, q⟩ := hsp
  obtain ⟨u1, rfl, rv⟩ : ∃ u1, us = [.ref a, u1] ∧ RelV v u1 := by
    cases r with
    | cons r0 r1 =>
      cases r1 with
      | cons r1 r2 =>
        cases r2
        cases r0
        exact ⟨_, rfl, r1⟩
  have KX : K.In s.heap := e0.mod.kin.keeps fun b o e => (e0.bs b o e).1
  have lim : s.heap.NoLimit := e0.mod.nolimit.keeps fun b o e => (e0.bs b o e).1
  have hfs' : (f == ("self" : Str)) = false := hfs
  refine PySem.ks_codeAny_call_defAt (fd := PySem.W.ksFn name qual ap (supBody (.JoinedStr mv pj) f p0 p1 p2 p3 p4 p5 p6 p7 p8) (supScope f) dV kV doc pm an (.ref cda) ct cc) (body := supBody (.JoinedStr mv pj) f p0 p1 p2 p3 p4 p5 p6 p7 p8) (binds := [("self", .ref a), (f, u1)])
    hr.depth (KX _ _ lk) rfl lim (PySem.W.codeRec_of KX hcd) rfl hb ?_ ?_ (fun h₁ hns kp => ?_) rfl rfl rfl
  · intro x hx
    have hx : x ∈ (supScope f).names := hx
    simp at hx
    rcases hx with rfl | rfl | rfl | rfl <;> simp
  · intro x hx
    simp at hx
    show (supScope f).names.lookup x.1 = some .local
    rcases hx with rfl | rfl
    · rfl
    · simp [List.lookup, hfs']
  have I : Inv (supCx P w K mg base f qual fI cda cc A outer s H) [] [some (.ref a), some v] H { s with heap := h₁, toks := s.toks + 2 } := sup_start hfs hfc T hr.hd e0 rv hns kp
  have KX1 : K.In h₁ := I.kIn
  obtain ⟨t1, hoe⟩ := exo_at I.hok ha
  obtain ⟨nm, qn, N, bs, bm, sn, sub, ab, col, dd, k0, k1, k2, k3, k5, hC, hbm⟩ := T.oex.cls
  have hcl : PySem.W.clsIn K C = some { name := nm, bases := bs, mro := .ref C :: bm, ns := N, qualname := qn, hasDict := true, slotNames := sn, subclasses := sub, abstract := ab, collection := col, hasDel := false } := by unfold PySem.W.clsIn; rw [hC] <;> rfl
  have hC1 := KX1 _ _ hC
  obtain ⟨ccl, cdd, vs, ccs, file, tf, hcode, hvs, hfile⟩ := T.code
  obtain ⟨cl, cld, csl, hcell⟩ := T.cell
  obtain ⟨ar, har, hara⟩ : ∃ ar : Arg, (ap.posonlyargs ++ ap.args).head? = some ar ∧ ar.arg = "self" := by
    cases e : (ap.posonlyargs ++ ap.args).head? with
    | none =>
      rw [e] at hap
      cases hap
    | some ar =>
      rw [e] at hap
      exact ⟨ar, rfl, Option.some.inj hap⟩
  have hInst : PySem.W.InstAt h₁ a { cls := .ref C, dict := none, data := .fields #[.ref t1, .none, .none, .none, .bool false, .none] } C none := ⟨hoe, rfl, rfl, trivial⟩
  have hxC : a ≠ C := PySem.W.ks_ne KX1 hInst hcl
  have sy : ∀ {x y : Str}, (x == y) = false → (y == x) = false := fun {x y} h => by
    rw [beq_eq_false_iff_ne] at h ⊢
    exact h.symm
  have l_super : (supScope f).names.lookup ("super" : Str) = some .globalImplicit := by
    have q1 := sy hfu
    have q2 : (("super" : Str) == ("self" : Str)) = false := by decide
    have q3 : (("super" : Str) == ("__class__" : Str)) = false := by decide
    simp [List.lookup, q1, q2, q3]
  have l_class : (supScope f).names.lookup ("__class__" : Str) = some .free := by
    have q1 := sy hfc
    have q2 : (("__class__" : Str) == ("self" : Str)) = false := by decide
    simp [List.lookup, q1, q2]
  have l_f : (supScope f).names.lookup f = some .local := by simp [List.lookup, hfs']
  obtain ⟨mb, hb1, hb2⟩ := e0.mod.blt
  refine PySem.ks_wpAt_execs_cons (PySem.ks_wpAt_Expr_any (PySem.ks_wpAt_MethodCall (pl := pl) ?_ (he _)) rfl rfl)
  refine PySem.ks_wpAt_super_base (env := PySem.W.ksEnv qual (supScope f) s.heap.objs.size fI (.ref cda) cc) ?ks ?kc rfl rfl (KX1 _ _ lk) rfl har rfl (KX1 _ _ hcode) rfl hvs hfile T.topS ?_
  case ks => exact l_super
  case kc => exact l_class
  refine PySem.W.ks_loadName_global rfl l_super (PySem.Calls.loadGlobal_builtin (env := PySem.W.ksEnv qual (supScope f) s.heap.objs.size fI (.ref cda) cc) (I.mod.glob.keeps I.bk) T.mgS (hb1.keeps I.bk) ((hb2 _ (by decide)).trans PyProof.Rows.Boot.«super») ⟨rfl, ?_⟩)
  refine wpAny_loadName_free rfl l_class rfl ⟨_, KX1 _ _ hcell, rfl⟩ ?_
  rw [hara]
  refine wpAny_loadName_local rfl rfl hns (v := .ref a) ?_ ?_
  · have q := sy hfs
    simp [List.lookup, q]
  refine PySem.ks_wpAny_isType_cls hC1 rfl ⟨rfl, ?_⟩
  refine PySem.ks_wpAny_call_super hC1 rfl hoe rfl (fun c e => by cases e) (PySem.W.looks_mroIn KX1 T.sub) (fun h2 hso k2 => ?_)
  have I2 := I.kept (h' := h2) (t' := s.toks + 2) k2
  have KX2 : K.In h2 := I2.kIn
  have hInst2 : PySem.W.InstAt h2 a { cls := .ref C, dict := none, data := .fields #[.ref t1, .none, .none, .none, .bool false, .none] } C none := ⟨k2 _ _ hoe, rfl, rfl, trivial⟩
  refine PySem.W.kxs_getMethod PySem.W.kxs_ValueError hso (PySem.W.looks_opaque KX2 T.op) (l₀ := .ref C :: bm) ?mro rfl KX2 ?along (hInst2.type.andThen (PySem.W.looks_subIn KX2 T.subVE)) hxC rfl ?_
  case mro => exact fun A Q E s k q => wpAny_bind ((PySem.W.looks_clsIn KX2 hcl) A _ E s k (wpAny_pure q))
  case along =>
    have z := T.sup
    unfold PySem.W.ks_superIn at z
    rw [hcl] at z
    exact z
  have I3 := I2.kept (h' := h2.push (PySem.W.kxs_mw "ValueError.__init__" a)) (t' := s.toks + 2 + 1) (fun b o e => Heap.get?_push_of_some _ e)
  have hsz : H h2.objs.size = none := I2.hok.fresh (Nat.le_refl _)
  have I4 := I3.pins_of (pins' := [(h2.objs.size, PySem.W.kxs_mw "ValueError.__init__" a)]) (fun p hp => by
    obtain rfl : p = (h2.objs.size, PySem.W.kxs_mw "ValueError.__init__" a) := by simpa using hp
    exact ⟨Heap.get?_push_at rfl rfl, hsz, Nat.ne_of_gt I2.lt, I2.nofs (Nat.le_refl _), fun v z => by cases z⟩)
  obtain ⟨tm, hpe, htm⟩ := hmsg (supCx P w K mg base f qual fI cda cc A outer s H) rfl rfl
  refine PySem.W.kxs_callWith (i := "ValueError.__init__") (x := a) rfl (PySem.Calls.evalArgs_plain ?_)
  refine wpAny_mono ((pa_cons hpe pa_nil).run p3 _ _ _ H (fun vs H1 => (∃ z, vs = [.str z]) ∧ H1 = H) I4 (htm a v H _ hv fun z => ⟨⟨z, rfl⟩, rfl⟩)) (fun us s5 hq5 => ?_) (fun _ _ z => z.elim)
  obtain ⟨vs5, H1, I5, r5, ⟨z, ev⟩, eH⟩ := hq5
  rw [eH] at I5
  have hu := (I5.pin (h2.objs.size, PySem.W.kxs_mw "ValueError.__init__" a) (by simp)).1
  refine ⟨hu, ?_⟩
  obtain ⟨hp5, g5, d5, t5, os5⟩ := s5
  obtain ⟨t6, hoe5⟩ := exo_at I5.hok ha
  have hC5 := I5.kIn _ _ hC
  have hz5 : us.length ≤ sizeLine := by
    rw [← Paired.length r5, ev, sizeLine_eq]
    exact Nat.le_trans (Nat.le_refl 1) (by omega)
  refine wpAny_call (codeAny_of_tree ?_)
  show wpAny _ _ (callAny (.ref h2.objs.size) ⟨us, []⟩) _ _ _
  simp only [callAny]
  refine wpAny_bind (wpAny_load hu ?_)
  simp only [PySem.W.kxs_mw, show (Value.type "method-wrapper" == Value.type "method" || Value.type "method-wrapper" == Value.type "builtin_function_or_method" || Value.type "method-wrapper" == Value.type "method-wrapper") = true by decide, if_true]
  refine PySem.W.KFB.if_so (by decide) ?_
  refine wpAny_bind (PySem.W.check_bound_init PySem.F.excBase_ValueError.toExcCallFacts hC5 hoe5 rfl ?_)
  refine wpAny_bind (wpAny_pure (wpAny_pure ?_))
  refine ⟨plainId_quiet PySem.F.excBase_ValueError.init.plain _, codeAny_builtin PySem.F.excBase_ValueError.initEntry ?_⟩
  refine PySem.W.exc_init_tree (cls := .ref C) (t0 := t6) (dv := none) (c2 := .none) (c3 := .none) (b4 := .bool false) hoe5 hz5 (fun h6 k6 e6 _ => ?_)
  have J0 := I5.write (h' := h6) (t' := t5) (x := a) (e := a) (o := exo a C none) (by rw [ha]; exact True.intro) (.inl rfl) k6 ⟨_, e6⟩ (exo_ok e6)
  have eu : upd H a (exo a C none) = H := by
    funext b
    by_cases hb : b = a
    · rw [hb, upd_same, ha]
    · rw [upd_ne hb]
  rw [eu] at J0
  have J := J0.pins_of (pins' := []) (fun p hp => by cases hp)
  have ps : PSs (supCx P w K mg base f qual fI cda cc A outer s H) [.Assign [.Attribute (.Name "self" p5) f p6] (.Name f p7) p8] _ := pss_one (ps_ost (pe_var (i := 0) (x := "self") rfl (.inl rfl) (by decide) (by decide)) (pe_var (i := 1) (x := f) rfl (.inl l_f) hfd hfcd))
  show PySem.wpAt _ _ _ (execs [.Assign [.Attribute (.Name "self" p5) f p6] (.Name f p7) p8] _) _ _ _
  refine wpAt_of_wpAny (wpAny_mono (ps.run [] _ _ H { nx := fun _ H' => Q .non H', rt := fun _ _ => False } J ⟨v, rfl, .ref a, rfl, a, C, rfl, T.oex, T.noF, .inl ⟨ha, fun dx n ne => q dx n ne⟩⟩) (fun fl s' hs => ?_) (fun _ _ z => z.elim))
  cases fl with
  | next =>
    obtain ⟨σ', H', J', q'⟩ := hs
    exact ⟨.non, H', J'.os, J'.bare, J'.base, J'.hok, rfl, q'⟩
  | ret u =>
    obtain ⟨_, _, _, _, _, z⟩ := hs
    exact z.elim
  | brk =>
    obtain ⟨_, _, _, z⟩ := hs
    exact z.elim
  | cont =>
    obtain ⟨_, _, _, z⟩ := hs
    exact z.elim
end
end Pw
namespace Pw
open PySem PySem.Spec PyProof.Rows L2
/-- an own error class x with the field f: all that raising and catching it asks -/
structure ErrOk (P : Program) (w : World) (K : PySem.W.Frag) (mg : Str → Option Value) (base : Heap) (x f : Str) (C : Addr) (Okv : V → Prop) : Prop where
  oex : OexC K C
  mgC : mg x = some (.ref C)
  ini : ∃ (fI : Addr) (fd : FuncData), FnOk P w K mg base CX0 1 fI fd ["self", f] (spSup C f Okv) ∧ Binds K fd ["self", f] [] ∧ PySem.W.findIn K (.ref C) "__init__" = some (some (.ref fI)) ∧ PySem.W.typeIn K (.ref fI) = some (.type "function")
theorem pmk_err {X : Cx} {x f : Str} {C : Addr} {Okv : V → Prop} {e : Expr} {te : TE} {p pos : Pos} (T : ErrOk X.prog X.w X.K X.mg X.base x f C Okv) (hr : Room 2 X.A) (hg : Gl X x) (he : PE X e te) (hs : starEach [e] X.env = [(false, eval e X.env)] := by rfl)
    (hdb : (x == ("__debug__" : Str)) = false := by decide) : PMk X (.Call (.Name x p) [e] [] pos) (tMkO C (spSup C f Okv) [] (tCons te tNil)) := by
  obtain ⟨fI, fd, F1, hb, iC, tI⟩ := T.ini
  exact pmk_oex (dvs := []) T.oex iC tI F1 hr hb .nil (fun _ _ _ _ _ _ _ z => z.elim) hg T.mgC (pa_cons he pa_nil hs) hdb hs rfl
/-- the reading's end: the argument is v -/
theorem err_read {C : Addr} {f : Str} {Okv : V → Prop} {Q : XK} {v : V} {H1 : Hp} (hv : Okv v) (hq : ∀ d H2, Same H1 H2 → H1 d = none → H2 d = some (.xd [(f, v)]) → Q (.ref C) (some d) H2) :
    ([v] : List V).length ≤ 1000 ∧ ∀ a, H1 a = none → spSup C f Okv (.ref a :: ([v] ++ [])) (upd H1 a (exo a C none))
      (fun v2 H2 => v2 = .non ∧ ∃ (d : Addr) (fs : List (Str × V)), H2 a = some (exo a C (some d)) ∧ H2 d = some (exd d fs) ∧ H1 d = none ∧ Q (.ref C) (some d) (upd (del H2 a) d (.xd fs))) (fun _ _ _ => False) := by
  refine ⟨by show 1 ≤ 1000; decide, fun a na => ⟨a, v, rfl, hv, upd_same, fun dx nd ne => ⟨rfl, dx, [(f, v)], upd_same, ?_, ?_, ?_⟩⟩⟩
  · rw [upd_ne ne, upd_same]
  · rw [upd_ne ne] at nd
    exact nd
  · have nd1 : H1 dx = none := by
      rw [upd_ne ne] at nd
      exact nd
    refine hq dx _ (fun b o e => ?_) nd1 upd_same
    have b1 : b ≠ a := ne_of_none e na
    have b2 : b ≠ dx := ne_of_none e nd1
    rw [upd_ne b2, del_ne b1, upd_ne b1, upd_ne b2, upd_ne b1]
    exact e
end Pw

set_option Elab.async false
set_option linter.all false
set_option maxRecDepth 100000
set_option maxHeartbeats 2000000
namespace Pw
open PySem PySem.Spec PyProof.Rows L2
/-- the ends within a clause whose name is slot i -/
def asEnds (D : Ends) (i : Nat) : Ends := { nx := fun τ G => D.nx (τ.set i none) G, rt := D.rt, bk := fun τ G => D.bk (τ.set i none) G, ct := fun τ G => D.ct (τ.set i none) G }
/-- several clauses, each `except x as n`, n in slot i -/
def wAll (K : PySem.W.Frag) (i : Nat) (Wo : WX) (D : Ends) : List (Value × (Addr → Value → Option Addr → TS)) → WX
  | [] => Wo
  | (c, ts) :: r => fun cls dd τ G => ∃ b, PySem.W.exmOne K cls c = some b ∧ (b = true → ∀ a, G a = none → ts a cls dd (asEnds D i) (τ.set i (some (.ref a))) G) ∧ (b = false → wAll K i Wo D r cls dd τ G)
inductive AsOk (X : Cx) (n : Str) : List ExceptHandler → List (Value × (Addr → Value → Option Addr → TS)) → Prop
  | nil : AsOk X n [] []
  | cons {x : Str} {c : Value} {ts : Addr → Value → Option Addr → TS} {b0 : Stmt} {su : List Stmt} {p1 p2 : Pos} {hs : List ExceptHandler} {l : List (Value × (Addr → Value → Option Addr → TS))} (hc : Names X x c)
      (hsu : ∀ (a : Addr) (oe : Obj) (cls : Value) (dd : Option Addr) (pn : List (Addr × Obj)), Zc cls dd oe → (∃ vs, oe.data = .fields vs) → PSs (X.suite a ((a, oe) :: pn)) (b0 :: su) (ts a cls dd)) (r : AsOk X n hs l) :
      AsOk X n (.ExceptHandler (some (.Name x p1)) (some n) (b0 :: su) p2 :: hs) ((c, ts) :: l)
section
variable {X : Cx} {n : Str} {i : Nat} {body : List Stmt} {h0 : ExceptHandler} {hds : List ExceptHandler} {l : List (Value × (Addr → Value → Option Addr → TS))} {pos : Pos} {tb : WX → TS} {Wo : WX}
theorem ps_tryAll (hs : X.stack = X.env :: X.outer) (hf : X.env.frame = some X.env.locals) (hN : X.N.Nodup) (hi : X.N[i]? = some n) (hln : X.env.kindOf n = some .local) (tk : Takes X Wo)
    (hb : ∀ (W : WX) (pn : List (Addr × Obj)) (xe : Value → Shared → Prop), Takes (X.tr pn xe) W → PassesOwn (model X.prog X.w) X.A X.env xe → PSs (X.tr pn xe) body (tb W))
    (hh : AsOk X n (h0 :: hds) l) : PS X (.Try body (h0 :: hds) [] [] pos) (fun D τ G => tb (wAll X.K i Wo D l) D τ G) := by
  refine ⟨fun pns s τ G D I h => ?_⟩
  have xok := I.ok
  have xfr : X.A.frames = some (X.env :: X.outer) := by rw [xok.frames, hs]
  have xloc : Loc X.env.scope n := .inl hln
  refine wpAny_Try_except (wpAny_mono ((hb (wAll X.K i Wo D l) (X.pn ++ pns) (fun e s1 => wpAny (model X.prog X.w) X.A (noteFrame e X.env) (fun _ s2 => wpAny (model X.prog X.w) X.A (setFlight e none) (fun _ s3 =>
    wpAny (model X.prog X.w) X.A (handleBy e X.env (h0 :: hds)) (SP X pns D) X.xe s3) X.xe s2) X.xe s1) (fun u s' xx => ?_) PassesOwn.looking).run [] s τ G D (I.toTry _) h) (fun f s1 hsp => ?_) (fun e s1 he => he))
  · obtain ⟨a, B, sI, pns', τ', G', cls, dd, rfl, Jt, nb, up, sky, na, os, ag, ww⟩ := xx
    have J : Inv X pns τ' G' sI := Jt.ofTry xok
    have sky1 : Sky B (X.env :: X.outer) a (Zc cls dd) X.env.locals s'.heap := by rw [← hs]; exact sky
    show wpAny (model X.prog X.w) X.A (noteFrame (.ref a) X.env) _ _ _
    refine Sky.land Zc.steady xfr hf sky1 fun k3 fl3 up3 => ?_
    have J3 : Inv X pns τ' G' { s' with heap := k3 } := J.landed nb fl3.1 (up.trans up3) os ag
    obtain ⟨ob3, vs3, he3, hz3, hd3⟩ := fl3.there
    have nfr : a ∉ frs (X.env :: X.outer) := fun hm => by
      obtain ⟨_, oo, ee, hnf⟩ := fl3.2.2.1.mem hm
      rw [he3] at ee
      cases ee
      exact hnf _ hd3
    have nL : a ≠ X.env.locals := fun z => nfr (List.mem_filterMap.mpr ⟨X.env, List.mem_cons_self, by rw [hf, z]⟩)
    have nF : a ∉ X.fs := fun hm => by
      obtain ⟨e, he, qq⟩ := List.mem_filterMap.mp hm
      exact nfr (List.mem_filterMap.mpr ⟨e, List.mem_cons_of_mem _ he, qq⟩)
    have S3 := J3.suite he3 hd3 na nL nF
    have go : ∀ {hs' : List ExceptHandler} {l' : List (Value × (Addr → Value → Option Addr → TS))}, AsOk X n hs' l' → wAll X.K i Wo D l' cls dd τ' G' →
        wpAny (model X.prog X.w) X.A (handleBy (.ref a) X.env hs') (SP X pns D) X.xe { s' with heap := k3 } := by
      intro hs' l' hk
      induction hk with
      | nil =>
        intro ww
        refine wpAny_handleBy_nil ?_
        obtain ⟨_, _, _, ob, vs, T, oT, ts', he, hz, hd, h1, hr⟩ := id fl3
        unfold PySem.passOn
        refine wpAny_bind (wpAny_field he hd h1 ?_)
        rw [if_neg (show ¬ ((Value.ref T == Value.none) = true) from by simp)]
        have fin : wpAny (model X.prog X.w) X.A (setFlight (.ref a) X.env.frame) (fun _ s4 => wpAny (model X.prog X.w) X.A (throw (.ref a) : Sem Flow) (SP X pns D) X.xe s4) X.xe { s' with heap := k3 } := by
          rw [hf]
          exact HandSPX.setFlight_upZ fl3 fun k4 hh4 up4 => wpAny_throw (tk _ _ ⟨a, B, sI, pns, τ', G', cls, dd, rfl, J, nb, (up.trans up3).trans up4, .inr (.inr (by rw [hs]; exact hh4)), na, os, ag, ww⟩)
        first
          | exact wpAny_bind (wpAny_pure (wpAny_bind fin))
          | exact wpAny_bind fin
      | @cons x c ts b0 su p1 p2 hs2 l2 hc hsu r ih =>
        intro ww
        obtain ⟨b, hb1, hyes, hno⟩ := ww
        refine wpAny_handleBy_cons (codeAny_handlers_test ?_) (by intro q; cases q)
        have LT : PySem.W.Looks (model X.prog X.w) k3 (typeOf (.ref a)) cls := fun A Q E s k q => wpAny_typeOf_ref (k _ _ he3) (by rw [hz3.1]; exact q)
        have LM := PySem.W.exm_one (M := model X.prog X.w) (J3.kIn) LT hb1
        have test : ∀ {Q : Value → Shared → Prop} {E : Value → Shared → Prop}, Q c { s' with heap := k3 } → wpAny (model X.prog X.w) (X.A.mark (some (.ref a))) (eval (.Name x p1) X.env) Q E { s' with heap := k3 } := fun {Q E} q => by
          obtain ⟨hg, hdbg, hm | ⟨hm, hv, hnn⟩⟩ := hc
          · exact ld_glob (X := X.suite a ((a, ob3) :: (X.pn ++ pns))) S3 hg hm q hdbg
          · exact ld_blt (X := X.suite a ((a, ob3) :: (X.pn ++ pns))) S3 hg hm hv q hnn hdbg
        refine test (LM.here ?_)
        cases b with
        | true =>
          refine codeAny_handlers_suite_as ?_
          refine HandSPX.lands_againZ fl3 fun k4 fl4 up4 => ?_
          have J4 : Inv X pns τ' G' { s' with heap := k4 } := J.landed nb fl4.1 ((up.trans up3).trans up4) os ag
          obtain ⟨ob4, vs4, he4, hz4, hd4⟩ := fl4.there
          have S4 := J4.suite he4 hd4 na nL nF
          refine store_ok (X := X.suite a ((a, ob4) :: (X.pn ++ pns))) (v := .ref a) S4 hN hi xloc rfl (fun s5 S5 => ?_) (.inr hln)
          refine wpAny_mono ((hsu a ob4 cls dd (X.pn ++ pns) hz4 ⟨_, hd4⟩).run [] s5 _ G' _ S5 (hyes rfl a na)) (fun f s6 hsp => ?_) (fun _ _ z => False.elim z)
          have en : ∀ {τ6 : L2.St} {G6 : Hp} {Q : Shared → Prop}, Inv (X.suite a ((a, ob4) :: (X.pn ++ pns))) [] τ6 G6 s6 → (∀ s7, Inv X pns (τ6.set i none) G6 s7 → Q s7) →
              wpAny (model X.prog X.w) X.A (do bindName X.env n .none; unbindBehindTheSuite X.env n p2) (fun _ s7 => Q s7) X.xe s6 := fun {τ6 G6 Q} S6 hq => gone_ok (S6.unsuite xok) hN hi hln hq
          cases f with
          | next =>
            obtain ⟨τ6, G6, S6, q6⟩ := hsp
            exact en S6 fun s7 J7 => ⟨_, _, J7, q6⟩
          | brk =>
            obtain ⟨τ6, G6, S6, q6⟩ := hsp
            exact en S6 fun s7 J7 => ⟨_, _, J7, q6⟩
          | cont =>
            obtain ⟨τ6, G6, S6, q6⟩ := hsp
            exact en S6 fun s7 J7 => ⟨_, _, J7, q6⟩
          | ret u =>
            obtain ⟨v6, τ6, G6, S6, r6, q6⟩ := hsp
            exact en S6 fun s7 J7 => ⟨_, _, _, J7, r6, q6⟩
        | false =>
          show wpAny _ X.A (handleBy (.ref a) X.env hs2) _ _ _
          exact ih (hno rfl)
    exact go hh ww
  · cases f with
    | next =>
      obtain ⟨τ', G', Jt, q⟩ := hsp
      exact wpAny_execs_nil ⟨τ', G', Jt.ofTry xok, q⟩
    | brk =>
      obtain ⟨τ', G', Jt, q⟩ := hsp
      exact ⟨τ', G', Jt.ofTry xok, q⟩
    | cont =>
      obtain ⟨τ', G', Jt, q⟩ := hsp
      exact ⟨τ', G', Jt.ofTry xok, q⟩
    | ret u =>
      obtain ⟨v, τ', G', Jt, r, q⟩ := hsp
      exact ⟨v, τ', G', Jt.ofTry xok, r, q⟩
end
end Pw

set_option Elab.async false
set_option linter.all false
set_option maxRecDepth 100000
set_option maxHeartbeats 2000000
namespace Pw
open PySem PySem.Spec PyProof.Rows L2 LamX
section
variable {X : Cx} {pins : List (Addr × Obj)} {σ : L2.St} {H HZ : Hp} {s s1 : Shared}
/-- x() in the def that got the lambda; what the lambda lets out is wished for at the slots as they stand -/
theorem pe_actW {CXg : CXT} {Eg : XK} {Ng : List Str} {qg : Str} {sg : Scope} {g f c' : Addr} {cdg pm ctv : Value} {params : Arguments} {body : Expr} {scope : Scope} {k i : Nat} {a : Str} {pn : List (Addr × Obj)} {xe : Value → Shared → Prop} {W : WX} {tb : XK → TE} {p1 p2 : Pos}
    (I : Inv X pins σ H s) (L : LamS X.env.scope scope) (hf : s.heap.get? f = some (PySem.W.kla_obj "<lambda>" (X.env.qual ++ "<lambda>") params body scope (cloFrom X.env.cells scope.names []) pm c' ctv)) (hfn : H f = none) (hfr : f ∉ frs X.stack)
    (hbind : bindArgs (PySem.W.kla_fn "<lambda>" (X.env.qual ++ "<lambda>") params body scope (cloFrom X.env.cells scope.names []) pm (.ref c') ctv) ⟨[], []⟩ = pure [])
    (tk : Takes ((cxOf CXg X.prog X.w X.K X.mg X.base Ng qg sg g cdg X.A X.stack s H Eg).tr pn xe) W) (hr : Room (k + 1) (X.A.deeper (envOfC qg sg s.heap.objs.size g cdg)))
    (hbody : ∀ (A : Around) (outer : List Env) (s : Shared) (H : Hp) (E : XK), Room k (A.deeper (lamEnv X scope s.heap.objs.size f c')) → PE (lamCx X A outer s H E scope f c') body (tb E))
    (hN : Ng[i]? = some a) (hv : Vis sg a) (hd : (a == ("__debug__" : Str)) = false := by decide) (hcd : (a == ("__classdict__" : Str)) = false := by decide) :
    PE ((cxOf CXg X.prog X.w X.K X.mg X.base Ng qg sg g cdg X.A X.stack s H Eg).tr pn xe) (.Call (.Name a p1) [] [] p2)
      (fun σZ HZ Q => ∃ (E : XK) (Q' : VK), (∀ cls dd G, E cls dd G → W cls dd σZ G) ∧ (∀ v G, Q' v G → Q v G) ∧ σZ[i]? = some (some (.ref f)) ∧ HZ c' = some (CodeO c' (X.env.qual ++ "<lambda>")) ∧ tb E σ HZ Q') := by
  refine ⟨fun pZ sZ σZ HZ Q IZ h => ?_⟩
  obtain ⟨E, Q', hE, hQ, hs, hc, ht⟩ := h
  refine wpAny_Call_Name_kw (thn ((pe_var (pos := p1) (i := i) hN hv hd hcd).run pZ sZ σZ HZ (fun v H1 => v = .ref f ∧ H1 = HZ) IZ ⟨.ref f, hs, rfl, rfl⟩) fun u s1 ⟨v, H1, I1, r1, q1⟩ => ?_)
  obtain ⟨ev, eH⟩ := q1
  subst ev
  rw [eH] at I1
  obtain rfl : u = Value.ref f := r1
  have of1 : s1.heap.get? f = some (PySem.W.kla_obj "<lambda>" (X.env.qual ++ "<lambda>") params body scope (cloFrom X.env.cells scope.names []) pm c' ctv) := I1.base.keep f _ hf hfn hfr (fun z => nomatch (show f ∈ ([] : List Addr) from z))
  refine PySem.W.callWith_F0 ⟨_, _, _, _, of1⟩ ?_
  have un1 : Un (frs X.stack) [] H HZ s.heap s1.heap := I1.base
  obtain ⟨⟨oc, vs, t, hoc, hdc, hvc⟩, _, _⟩ := I1.hok c' _ hc
  have rc : codeAny (model X.prog X.w) (X.A.deeper (envOfC qg sg s.heap.objs.size g cdg)) (.call (.ref f) ⟨[], []⟩) (CR (L2.CX X.prog X.w) (envOfC qg sg s.heap.objs.size g cdg :: X.stack) X.prog X.w HZ s1 Q' E) s1 := by
    refine PySem.W.kla_callFunE hr.depth of1 rfl L.co L.gen rfl ⟨c', oc, vs, t, rfl, hoc, hdc, hvc⟩ ?_
    rw [hbind]
    refine wpAny_pure (wpAny_newFunctionEnv (fun y hy => (L.own y hy).2) (fun y hy => absurd hy (by simp)) (fun h₁ hns hsb => ⟨I1.nolimit.fresh _ hsb, ?_⟩) L.kind)
    show codeAny _ _ (.expr body (lamEnv X scope s1.heap.objs.size f c')) _ _
    have kp : ∀ b o, s1.heap.get? b = some o → h₁.get? b = some o := fun b o e => hsb.extBut b o (Nat.ne_of_lt (Heap.lt_size e)) (Heap.get?_push_of_some _ e)
    have J : Inv (lamCx X (X.A.deeper (envOfC qg sg s.heap.objs.size g cdg)) (envOfC qg sg s.heap.objs.size g cdg :: X.stack) s1 HZ E scope f c') [] σ HZ { s1 with heap := h₁, toks := s1.toks + ([] : List (Str × Value)).length } := lam_start2 I L I1.env0 hr.hd un1 hns kp
    refine PySem.W.kla_codeExpr (wpAny_mono ((hbody _ _ s1 HZ E (hr.deeper _)).run [] _ _ HZ Q' J ht) (fun v s' hq => ?_) fun e s' hq => hq)
    obtain ⟨w', G, J', rv, q⟩ := hq
    exact ⟨w', G, J'.os, J'.bare, J'.base, J'.hok, rv, q⟩
  refine wpAny_call (codeAny_mono rc fun r s' hq => ?_)
  cases r with
  | error e => exact tk e s' (XE.of_call I1 hE hq)
  | ok fl =>
    cases fl with
    | ret u =>
      obtain ⟨v, G, J, rv, q⟩ := I1.after hq
      exact ⟨v, G, J, rv, hQ v G q⟩
    | next => exact False.elim hq
    | brk => exact False.elim hq
    | cont => exact False.elim hq
end
/-- the def g(a) that calls what it got -/
def GivesW (X : Cx) (Ng : List Str) (x : Str) (sg : Scope) (g : Addr) (cdg : Value) (bg : List Stmt) (a : Str) (q : Str) (TT : (XK → Hp → VK → Prop) → Hp → VK → Prop) : Prop :=
  ∀ (f c' : Addr) (s : Shared) (H : Hp) (Q : VK) (tl : XK → Hp → VK → Prop),
    (∀ (W : WX) (pn : List (Addr × Obj)) (xe : Value → Shared → Prop) (p1 p2 : Pos), Takes ((cxOf C8.CX0 X.prog X.w X.K X.mg X.base Ng x sg g cdg X.A X.stack s H C8.E0).tr pn xe) W →
      PE ((cxOf C8.CX0 X.prog X.w X.K X.mg X.base Ng x sg g cdg X.A X.stack s H C8.E0).tr pn xe) (.Call (.Name a p1) [] [] p2)
        (fun σZ HZ Q => ∃ (E : XK) (Q' : VK), (∀ cls dd G, E cls dd G → W cls dd σZ G) ∧ (∀ v G, Q' v G → Q v G) ∧ σZ[0]? = some (some (.ref f)) ∧ HZ c' = some (CodeO c' q) ∧ tl E HZ Q')) →
    H c' = some (CodeO c' q) → TT tl H Q →
    ∃ t, PSs (cxOf C8.CX0 X.prog X.w X.K X.mg X.base Ng x sg g cdg X.A X.stack s H C8.E0).nox bg t ∧ t { nx := fun _ G => Q .non G, rt := Q } (L2.start Ng [.ref f]) H
section
variable {X : Cx}
/-- g(lambda: body) -/
theorem pe_lamW {T : List (Addr × Str)} {TT : (XK → Hp → VK → Prop) → Hp → VK → Prop} {x a : Str} {g c P : Addr} {k : Nat} {pg : Arguments} {bg : List Stmt} {sg : Scope} {dV kV doc pm cdv ct oc : Value} {an od : Option Addr} {osl : Array (Option Value)} {Ng : List Str}
    {params : Arguments} {body : Expr} {scope : Scope} {t : XK → TE} {p lpos pos : Pos} (hg : Gl X x) (hm : X.mg x = some (.ref g)) (hk : PySem.W.keepIn X.K (.ref g) = true)
    (lk : X.K.lookup g = some ⟨oc, od, .func (PySem.W.fnOf x x pg bg sg dV kV doc pm an cdv ct), osl⟩) (hcg : PySem.W.codeIn X.K cdv x = true) (hb : L2.Binds X.K (PySem.W.fnOf x x pg bg sg dV kV doc pm an cdv ct) [a] []) (Sg : FnScope Ng [a] sg) (hNg : Ng[0]? = some a) (hva : Vis sg a)
    (hG : GivesW X Ng x sg g cdv bg a (X.env.qual ++ "<lambda>") TT)
    (TB : TabB X.base X.mg c P) (hcode : X.env.code = .ref c) (hmT : (P, X.env.qual ++ "<lambda>") ∈ T) (hu : ∀ p ∈ T, p.1 = P → p.2 = X.env.qual ++ "<lambda>") (hr : Room (k + 2) X.A) (L : LamS X.env.scope scope) (hdef : defaultsOf params X.env = ([], []))
    (hbind : ∀ (q : Str) (cl : List (Str × Addr)) (pm cv ctv : Value), bindArgs (PySem.W.kla_fn "<lambda>" q params body scope cl pm cv ctv) ⟨[], []⟩ = pure [])
    (hbody : ∀ (A : Around) (outer : List Env) (s : Shared) (H : Hp) (E : XK) (f c' : Addr), Room k (A.deeper (lamEnv X scope s.heap.objs.size f c')) → PE (lamCx X A outer s H E scope f c') body (t E))
    (hdb : (x == ("__debug__" : Str)) = false := by decide) (hd : (a == ("__debug__" : Str)) = false := by decide) (hcd : (a == ("__classdict__" : Str)) = false := by decide) :
    PE X (.Call (.Name x p) [.Lambda params body scope lpos] [] pos) (tLam T TT t) := by
  refine ⟨fun pns s τ G Q I h => ?_⟩
  obtain ⟨hT, h⟩ := h
  refine wpAny_Call_Name_kw (ld_glob I hg hm (PySem.W.callWith_K (h₀ := X.base) I.ok.mod.kin hk ?_ (by rfl) (by rfl)) hdb)
  show wpAny _ _ (spliced ((false, eval (.Lambda params body scope lpos) X.env) :: backTo pos (starEach [] X.env))) _ _ s
  refine Calls.spliced_cons (lam_make2 I TB hcode hmT hu hT hdef (L.has I.ok) fun f c' pm' ctv H1 s' I1 eN T1 hf hfn hfr hco => Calls.spliced_nil ⟨I1.kIn, ?_⟩)
  have rc : codeAny (model X.prog X.w) X.A (.call (.ref g) ⟨[.ref f], []⟩) (CR C8.CX0 X.stack X.prog X.w H1 s' Q C8.E0) s' := by
    refine run_ofS (N := Ng) (ps := [a]) (us := [.ref f]) (vs := [.ref f]) lk hcg Sg hr I1.env0 (hb s' [.ref f] I1.kIn rfl) (.cons rfl .nil) rfl fun hr' => ?_
    obtain ⟨t', ht', hq'⟩ := hG f c' s' H1 Q (fun E G' Q' => t E τ G' Q') (fun W pn xe p1 p2 tk => pe_actW (i := 0) I1 L hf hfn hfr (hbind _ _ _ _ _) tk hr' (fun A outer s H E hr2 => hbody A outer s H E f c' hr2) hNg hva hd hcd) hco (h H1 eN T1)
    exact ⟨t', ht'.nox, hq'⟩
  refine wpAny_call (codeAny_mono rc fun r s2 hq => ?_)
  cases r with
  | error e => exact (show False from hq).elim
  | ok fl =>
    cases fl with
    | ret u => exact I1.after hq
    | next => exact False.elim hq
    | brk => exact False.elim hq
    | cont => exact False.elim hq
/-- behind the try of why: return (told, word) -/
def whyEnds (Q : VK) : Ends := { nx := tRet (tTup (tCons (tVar 1) (tCons (tVar 2) tNil))) { nx := fun _ G => Q .non G, rt := Q }, rt := Q }
/-- told = None; word = ''; try: told = a() / except .. as e: ..; return (told, word) -/
def TTwhy (K : PySem.W.Frag) (l : List (Value × (Addr → Value → Option Addr → TS))) : (XK → Hp → VK → Prop) → Hp → VK → Prop := fun tl H Q =>
  ∃ (E : XK) (Q' : VK), (∀ (f : Addr) cls dd G, E cls dd G → wAll K 3 (fun _ _ _ _ => False) (whyEnds Q) l cls dd [some (.ref f), some .non, some (.str ""), none] G) ∧
    (∀ v G, Q' v G → ∀ p, G p = none → Q (.ref p) (upd G p (.tup [v, .str ""]))) ∧ tl E H Q'
theorem why_gives {x a tn wn en q : Str} {sg : Scope} {g : Addr} {cdg : Value} {j1 j2 : Nat} {j3 : Nat} {h0 : ExceptHandler} {hds : List ExceptHandler} {l : List (Value × (Addr → Value → Option Addr → TS))} {p1 p2 p3 p4 p5 p6 p7 p8 p9 p10 p11 p12 p13 p14 p15 : Pos}
    (S : FnScope [a, tn, wn, en] [a] sg) (k1 : sg.names.lookup tn = some .local) (k2 : sg.names.lookup wn = some .local) (k3 : sg.names.lookup en = some .local)
    (d1 : (tn == ("__debug__" : Str)) = false) (d2 : (tn == ("__classdict__" : Str)) = false) (d3 : (wn == ("__debug__" : Str)) = false) (d4 : (wn == ("__classdict__" : Str)) = false)
    (hcl : ∀ (s : Shared) (H : Hp), AsOk (cxOf C8.CX0 X.prog X.w X.K X.mg X.base [a, tn, wn, en] x sg g cdg X.A X.stack s H C8.E0).nox en (h0 :: hds) l) :
    GivesW X [a, tn, wn, en] x sg g cdg [.Assign [.Name tn p1] (.Constant .none j1 p2) p3, .Assign [.Name wn p4] (.Constant (.str "") j2 p5) p6, .Try [.Assign [.Name tn p7] (.Call (.Name a p8) [] [] p9) p10] (h0 :: hds) [] [] p11, .Return (some (.Tuple [.Name tn p12, .Name wn p13] j3 p14)) p15] a q (TTwhy X.K l) := by
  intro f c' s H Q tl act hc h
  obtain ⟨E, Q', hE, hQ, h⟩ := h
  refine ⟨_, pss_cons (ps_set (i := 1) S.nd rfl (.inl k1) pe_non) (pss_cons (ps_set (i := 2) S.nd rfl (.inl k2) pe_str)
    (pss_cons (ps_tryAll (i := 3) (n := en) (Wo := fun _ _ _ _ => False) (tb := fun W => tAsg (fun σZ HZ Q => ∃ (E : XK) (Q' : VK), (∀ cls dd G, E cls dd G → W cls dd σZ G) ∧ (∀ v G, Q' v G → Q v G) ∧ σZ[0]? = some (some (.ref f)) ∧ HZ c' = some (CodeO c' q) ∧ tl E HZ Q') (gName 1)) rfl rfl S.nd rfl k3
      (fun _ _ z => by obtain ⟨_, _, _, _, _, _, _, _, _, _, _, _, _, _, _, _, z⟩ := z; exact z.elim)
      (fun W pn xe tk _ => pss_one (ps_set (i := 1) S.nd rfl (.inl k1) (act W pn xe p8 p9 tk))) (hcl s H))
    (pss_one (ps_ret (pe_tup (pa_cons (pe_var (i := 1) rfl (.inl k1) d1 d2) (pa_cons (pe_var (i := 2) rfl (.inl k2) d3 d4) pa_nil))))))), ?_⟩
  refine ⟨E, Q', fun cls dd G e => hE f cls dd G e, fun v G q => ?_, rfl, hc, h⟩
  exact ⟨v, rfl, .str "", rfl, by show 2 ≤ sizeLine; decide, fun p hp => hQ v G q p hp⟩
end
end Pw

set_option Elab.async false
set_option linter.all false
set_option maxRecDepth 100000
set_option maxHeartbeats 2000000
namespace Pw
open PySem PySem.Spec PyProof.Rows L2
/-- enumerate(text): each sign in a new pair with its place -/
def Ites (x : Str) : It := ⟨fun i _ => i < x.cps.size, fun i H v H' => ∃ T c, v = .ref T ∧ H T = none ∧ x.cps[i]? = some c ∧ H' = upd H T (.tup [.int (i : Nat), .str ⟨#[c]⟩]), fun i _ => x.cps.size ≤ i⟩
theorem turn_enumS {P : Program} {w : World} {K : PySem.W.Frag} {elts : List Expr} {kk : Nat} {tpos : Pos} (x : Str) (t : Tok) (e it : Addr) :
    Turn P w K (.Tuple elts kk tpos) (Ites x) [e, it] e (fun i h => i ≤ x.cps.size ∧ (∃ old, IsEnum h e it ((i : Nat) : Int) old) ∧ h.IsStrIter it (strIterType x) x t i ∧ e ≠ it) where
  mem := by simp
  obj := fun i h st b hb => by
    obtain ⟨_, ⟨old, he⟩, ⟨o, ho, hc, hd⟩, _⟩ := st
    have e' : b = e ∨ b = it := by simpa using hb
    rcases e' with z | z
    · rw [z]
      exact ⟨_, he, fun v q => nomatch q⟩
    · rw [z]
      exact ⟨o, ho, fun v q => by rw [hd] at q; cases q⟩
  keep := fun i h h' st k => let ⟨hn, ⟨old, he⟩, ⟨o, ho, r⟩, hne⟩ := st; ⟨hn, ⟨old, k e (by simp) _ he⟩, ⟨o, k it (by simp) o ho, r⟩, hne⟩
  item := by
    intro X hP hw hK hc i pins s σ H E I hf st hg
    subst hP hw hK
    obtain ⟨_, ⟨old, he⟩, hit, hne⟩ := st
    have hel : e < s.heap.objs.size := Heap.lt_size he
    have hil : it < s.heap.objs.size := by obtain ⟨_, q, _⟩ := hit; exact Heap.lt_size q
    have Dr := Draws.text (prog := X.prog) (w := X.w) (A := X.A.in1) (show X.A.in1.handled = none from I.ok.hd hc) it x t
    refine wpAny_pyNext_enum_itemD Dr he hit hg hne (by simpa using hne) fun u h' tk hu ho hit' hT hsz hk => ?_
    obtain ⟨c, tc, hcx, rfl⟩ := hu
    refine ⟨_, rfl, wpAny_letOwnedTupleGo_enum (s := { s with heap := h', toks := tk + 1 }) ho fun h'' he' sb => ?_⟩
    have hT2 : h''.get? s.heap.objs.size = some { cls := .type "tuple", data := .seq #[.int i tk, .str ⟨#[c]⟩ tc] } := (sb.2 _ (Nat.ne_of_gt hel)).trans hT
    have new : ObjOk X.prog X.w (upd H s.heap.objs.size (.tup [.int (i : Nat), .str ⟨#[c]⟩])) h'' s.heap.objs.size (.tup [.int (i : Nat), .str ⟨#[c]⟩]) :=
      ⟨by show 2 ≤ sizeLine; decide, [.int i tk, .str ⟨#[c]⟩ tc], .cons ⟨_, rfl⟩ (.cons ⟨_, rfl⟩ .nil), ⟨_, hT2, rfl, _, rfl⟩⟩
    have I1 : Inv X pins σ (upd H s.heap.objs.size (.tup [.int (i : Nat), .str ⟨#[c]⟩])) { s with heap := h'', toks := tk + 1 } :=
      I.turnedNew (ch := [e, it]) (fun b ob hb q => (sb.2 b (fun z => hb (by simp [z]))).trans (hk b ob (fun z => hb (by simp [z])) (fun z => hb (by simp [z])) q)) hf (Nat.le_refl _) new
    obtain ⟨oi, ei, ri⟩ := hit'
    refine ⟨.ref s.heap.objs.size, _, I1, rfl, ⟨_, c, rfl, I.hok.fresh (Nat.le_refl _), hcx, rfl⟩, ⟨hg, ⟨.str ⟨#[c]⟩ tc, ?_⟩, ⟨oi, (sb.2 it (Ne.symm hne)).trans ei, ri⟩, hne⟩, fun b hb => ?_⟩
    · have e1 : ((i + 1 : Nat) : Int) = (i : Int) + 1 := by omega
      rw [e1]
      exact he'
    · have hb' : b < s.heap.objs.size := by
        have e' : b = e ∨ b = it := by simpa using hb
        rcases e' with z | z
        · rw [z]
          exact hel
        · rw [z]
          exact hil
      rw [upd_ne (Nat.ne_of_lt hb')]
      exact (hf b hb).1
  done := by
    intro X hP hw hK hc i pins s σ H E I hf st hg
    subst hP hw hK
    obtain ⟨hn, ⟨old, he⟩, hit, hne⟩ := st
    have hg : x.cps.size ≤ i := hg
    obtain rfl : i = x.cps.size := by omega
    obtain ⟨f0, f1, f2, f3, f4, f5⟩ := hf it (by simp)
    have Dr := Draws.text (prog := X.prog) (w := X.w) (A := X.A.in1) (show X.A.in1.handled = none from I.ok.hd hc) it x t
    exact wpAny_pyNext_enum_endD Dr he hit fun h' eb => ⟨rfl, I.turned (t' := s.toks) (fun b o hb q => eb b o hb q) f0 f1 f3 f4 f5⟩
  self := fun A i s Q E st h => let ⟨_, ⟨_, he⟩, _⟩ := st; wpAny_pyIter_enum he h
def iEnumS (ta : TA) : TI := fun σ H R => ta σ H fun vs H1 => ∃ x, vs = [.str x] ∧ R (Ites x) H1
theorem pi_enumS {X : Cx} {e : Expr} {ta : TA} {p pos tpos : Pos} {elts : List Expr} {kk : Nat} (hg : Gl X "enumerate") (hm : X.mg "enumerate" = none) (ha : PA X [e] ta) (hs : starEach [e] X.env = [(false, eval e X.env)] := by rfl) :
    PI X (.Tuple elts kk tpos) (.Call (.Name "enumerate" p) [e] [] pos) (iEnumS ta) := by
  refine ⟨fun pns s τ G R I h => ?_⟩
  refine Call_ (ld_blt I hg hm boot_enumerate (PyProof.Rows.callWith_type1 (thn (ha.run pos pns s τ G _ I h) fun us s1 ⟨vs, H1, I1, r1, q1⟩ => ?_) hs rfl))
  obtain ⟨x, ex, q⟩ := q1
  subst ex
  cases r1 with
  | cons r rr =>
    cases rr
    obtain ⟨t, rfl⟩ := r
    refine call_enumerate_str fun h' he hit hsz hk => wpAny_pyIter_enum he ?_
    have I2 : Inv X pns τ H1 { s1 with heap := h' } := I1.kept (t' := s1.toks) hk
    refine ⟨s1.heap.objs.size + 1, [s1.heap.objs.size + 1, s1.heap.objs.size], _, _, H1, rfl, I2, turn_enumS x t (s1.heap.objs.size + 1) s1.heap.objs.size, ⟨Nat.zero_le _, ⟨.none, he⟩, hit, Nat.succ_ne_self _⟩, fun b hb => ?_, q⟩
    have e' : b = s1.heap.objs.size + 1 ∨ b = s1.heap.objs.size := by simpa using hb
    have hle : s1.heap.objs.size ≤ b := by
      rcases e' with z | z
      · rw [z]
        exact Nat.le_add_right _ _
      · rw [z]
        exact Nat.le_refl _
    exact I1.fpOk hle (I1.hok.fresh hle)
/-- for i, c in enumerate(text) -/
theorem for_enumS {x : Str} {g : TG} {tb : TS} {D : Ends} {σ : L2.St} {H : Hp} (Pv : Nat → L2.St → Hp → Prop) (h0 : Pv 0 σ H)
    (hs : ∀ i c σ H T, x.cps[i]? = some c → Pv i σ H → H T = none → g (.ref T) σ (upd H T (.tup [.int (i : Nat), .str ⟨#[c]⟩])) fun σ2 H2 => tb { D with nx := Pv (i + 1), ct := Pv (i + 1), bk := D.nx } σ2 H2)
    (hd : ∀ σ H, Pv x.cps.size σ H → D.nx σ H) :
    ∃ W : Nat → Nat → L2.St → Hp → Prop, (∃ m, W 0 m σ H) ∧ ∀ i m σ H, W i m σ H →
      ((Ites x).stop i H ∧ D.nx σ H) ∨ ((Ites x).go i H ∧ ∃ N : L2.St → Hp → Prop, (∀ σ' H', N σ' H' → ∃ m', m' < m ∧ W (i + 1) m' σ' H') ∧ ∀ v H', (Ites x).yld i H v H' → g v σ H' fun σ2 H2 => tb { D with nx := N, ct := N, bk := D.nx } σ2 H2) := by
  refine ⟨fun i m σ H => m = x.cps.size - i ∧ i ≤ x.cps.size ∧ Pv i σ H, ⟨x.cps.size, by simp, Nat.zero_le _, h0⟩, ?_⟩
  rintro i m σ H ⟨rfl, hi, p⟩
  by_cases hlt : i < x.cps.size
  · refine .inr ⟨hlt, Pv (i + 1), fun σ' H' p' => ⟨x.cps.size - (i + 1), by omega, rfl, hlt, p'⟩, fun v H' y => ?_⟩
    obtain ⟨T, c, rfl, nT, hc, rfl⟩ := y
    exact hs i c σ H T hc p nT
  · have e : i = x.cps.size := by omega
    subst e
    exact .inl ⟨Nat.le_refl _, hd σ H p⟩
/-- for c in text -/
theorem for_str {x : Str} {g : TG} {tb : TS} {D : Ends} {σ : L2.St} {H : Hp} (Pv : Nat → L2.St → Hp → Prop) (h0 : Pv 0 σ H)
    (hs : ∀ i c σ H, x.cps[i]? = some c → Pv i σ H → g (.str ⟨#[c]⟩) σ H fun σ2 H2 => tb { D with nx := Pv (i + 1), ct := Pv (i + 1), bk := D.nx } σ2 H2)
    (hd : ∀ σ H, Pv x.cps.size σ H → D.nx σ H) :
    ∃ W : Nat → Nat → L2.St → Hp → Prop, (∃ m, W 0 m σ H) ∧ ∀ i m σ H, W i m σ H →
      ((Its x).stop i H ∧ D.nx σ H) ∨ ((Its x).go i H ∧ ∃ N : L2.St → Hp → Prop, (∀ σ' H', N σ' H' → ∃ m', m' < m ∧ W (i + 1) m' σ' H') ∧ ∀ v H', (Its x).yld i H v H' → g v σ H' fun σ2 H2 => tb { D with nx := N, ct := N, bk := D.nx } σ2 H2) := by
  refine ⟨fun i m σ H => m = x.cps.size - i ∧ i ≤ x.cps.size ∧ Pv i σ H, ⟨x.cps.size, by simp, Nat.zero_le _, h0⟩, ?_⟩
  rintro i m σ H ⟨rfl, hi, p⟩
  by_cases hlt : i < x.cps.size
  · refine .inr ⟨hlt, Pv (i + 1), fun σ' H' p' => ⟨x.cps.size - (i + 1), by omega, rfl, hlt, p'⟩, fun v H' y => ?_⟩
    obtain ⟨rfl, c, hc, rfl⟩ := y
    exact hs i c σ _ hc p
  · have e : i = x.cps.size := by omega
    subst e
    exact .inl ⟨Nat.le_refl _, hd σ H p⟩
end Pw

set_option Elab.async false
set_option linter.all false
set_option maxRecDepth 100000
namespace Pw
open PySem PySem.Builtin PySem.Builtin.Str PySem.StrLaws TL

/-! ### signs -/
def bad (c : Nat) : Bool := c != 48 && c != 49
/-- the first stranger's place -/
def strange (l : List Nat) : Option Nat := l.findIdx? bad
/-- a text of 0s and 1s alone -/
def Pure (l : List Nat) : Prop := ∀ c ∈ l, c = 48 ∨ c = 49
theorem pure_of {l : List Nat} (h : strange l = none) : Pure l := fun c hc => by
  have := List.findIdx?_eq_none_iff.mp h c hc
  simp [bad] at this
  by_cases e : c = 48
  · exact .inl e
  · exact .inr (this e)
theorem strange_none {l : List Nat} (h : Pure l) : strange l = none := by
  refine List.findIdx?_eq_none_iff.mpr fun c hc => ?_
  rcases h c hc with e | e <;> simp [bad, e]
theorem strange_take {l : List Nat} {i c : Nat} (h : l[i]? = some c) (hp : Pure (l.take i)) : bad c = true → strange l = some i := fun hb => by
  obtain ⟨hi, e⟩ := List.getElem?_eq_some_iff.mp h
  refine List.findIdx?_eq_some_iff_getElem.mpr ⟨hi, by rw [e]; exact hb, fun j hj => ?_⟩
  have hm : l[j] ∈ l.take i := List.mem_take_iff_getElem.mpr ⟨j, by omega, rfl⟩
  rcases hp _ hm with q | q <;> simp [bad, q]
theorem pure_more {l : List Nat} {i c : Nat} (h : l[i]? = some c) (hp : Pure (l.take i)) (hb : bad c = false) : Pure (l.take (i + 1)) := fun d hd => by
  rw [List.take_add_one, h] at hd
  rcases List.mem_append.mp hd with q | q
  · exact hp d q
  · obtain rfl : d = c := by simpa using q
    simp [bad] at hb
    by_cases e : d = 48
    · exact .inl e
    · exact .inr (hb e)
theorem strange_lt {l : List Nat} {i : Nat} (h : strange l = some i) : i < l.length := (List.findIdx?_eq_some_iff_getElem.mp h).1

/-! ### count of one sign -/
theorem at_sign {x y : Str} {s : Nat} (hy : tl y = [s]) (i : Nat) : At x y x.length i ↔ (tl x)[i]? = some s := by
  rw [at_iff (by rw [hy]; simp), hy]
  show ((List.drop i (tl x)).take 1 == [s]) = true ↔ _
  rw [beq_iff_eq]
  constructor
  · intro h
    have : ((tl x).drop i)[0]? = some s := by
      have e := congrArg (·[0]?) h
      simpa [List.getElem?_take] using e
    simpa using this
  · intro h
    obtain ⟨hi, e⟩ := List.getElem?_eq_some_iff.mp h
    rw [List.drop_eq_getElem_cons hi, e]
    rfl
theorem count_none {s : Nat} {l : List Nat} (h : ∀ i : Nat, l[i]? ≠ some s) : l.count s = 0 := by
  refine List.count_eq_zero.mpr fun hm => ?_
  obtain ⟨i, hi, e⟩ := List.mem_iff_getElem.mp hm
  exact h i (by rw [List.getElem?_eq_getElem hi, e])
theorem chain_count {x y : Str} {s : Nat} (hy : tl y = [s]) : ∀ (cuts : List Nat) (a f : Nat), ChainG x y x.length a cuts f → (∀ k, f ≤ k → ¬ At x y x.length k) → cuts.length = ((tl x).drop a).count s
  | [], a, f, h, hn => by
    have e : f = a := h
    subst e
    rw [count_none]
    · rfl
    · intro i hi
      rw [List.getElem?_drop] at hi
      exact hn (f + i) (by omega) ((at_sign hy _).mpr hi)
  | c :: r, a, f, h, hn => by
    obtain ⟨h1, h2, h3, h4⟩ := h
    have hl : y.length = 1 := by rw [len_tl, hy]; rfl
    rw [hl] at h4
    have ih := chain_count hy r (c + 1) f h4 hn
    have hc := (at_sign hy c).mp h2
    obtain ⟨hi, e⟩ := List.getElem?_eq_some_iff.mp hc
    have hsplit : (tl x).drop a = ((tl x).drop a).take (c - a) ++ (tl x).drop c := by
      have q := (List.take_append_drop (c - a) ((tl x).drop a)).symm
      rw [List.drop_drop] at q
      rw [show a + (c - a) = c by omega] at q
      exact q
    rw [hsplit, List.count_append, List.drop_eq_getElem_cons hi, e, List.count_cons_self, ← ih, count_none]
    · rw [List.length_cons, Nat.zero_add]
    · intro i hi2
      by_cases hlt : i < c - a
      · rw [List.getElem?_take_of_lt hlt, List.getElem?_drop] at hi2
        exact h3 (a + i) (by omega) (by omega) ((at_sign hy _).mpr hi2)
      · rw [List.getElem?_eq_none (by rw [List.length_take]; omega)] at hi2
        cases hi2
theorem count_sign {x y : Str} {s : Nat} (hy : tl y = [s]) : Txt.count x y = ((tl x).count s : Nat) := by
  have h1 : 1 ≤ y.length := by rw [len_tl, hy]; exact Nat.le_refl _
  obtain ⟨f, g, hn⟩ := occ_tight x y h1
  have := chain_count hy _ 0 f g hn
  rw [List.drop_zero] at this
  unfold Txt.count
  rw [this]
theorem count_pure : ∀ {l : List Nat}, Pure l → l.count 48 + l.count 49 = l.length
  | [], _ => rfl
  | c :: r, h => by
    have ih := count_pure (l := r) fun d hd => h d (List.mem_cons_of_mem _ hd)
    rcases h c List.mem_cons_self with e | e <;> subst e <;> simp [List.count_cons] <;> omega

/-! ### runs of 0s -/
def runL : Nat → List Nat → List Nat
  | k, [] => [k]
  | k, c :: r => if c = 49 then k :: runL 0 r else runL (k + 1) r
theorem spl_len : ∀ (l acc : List Nat), (spl [49] 0 acc l).map List.length = runL acc.length l
  | [], acc => by rw [spl_nil]; rfl
  | c :: r, acc => by
    by_cases h : c = 49
    · subst h
      rw [spl_hit (by show ((49 :: r).take 1 == [49]) = true; rfl), List.map_cons, show ([49] : List Nat).length - 1 = 0 from rfl, spl_len r []]
      show _ = if 49 = 49 then _ else _
      rw [if_pos rfl]
      rfl
    · have hm : pre [49] (c :: r) = false := pre_of_head [] r h
      rw [spl_miss hm, spl_len r (acc ++ [c])]
      show _ = if c = 49 then _ else _
      rw [if_neg h, List.length_append]
      rfl
theorem runL_ne (l : List Nat) : ∀ k, runL k l ≠ [] := by
  induction l with
  | nil => intro k; simp [runL]
  | cons c r ih =>
    intro k
    unfold runL
    split
    · simp
    · exact ih _
theorem runL_len (l : List Nat) : ∀ k, (runL k l).length ≤ l.length + 1 := by
  induction l with
  | nil => intro k; simp [runL]
  | cons c r ih =>
    intro k
    unfold runL
    split
    · rw [List.length_cons, List.length_cons]
      have := ih 0
      omega
    · have := ih (k + 1)
      rw [List.length_cons]
      omega
theorem runL_le (l : List Nat) : ∀ (k n : Nat), n ∈ runL k l → n ≤ k + l.length := by
  induction l with
  | nil =>
    intro k n h
    have : n = k := by simpa [runL] using h
    rw [this]
    exact Nat.le_add_right _ _
  | cons c r ih =>
    intro k n h
    unfold runL at h
    split at h
    · rcases List.mem_cons.mp h with z | z
      · rw [z]
        exact Nat.le_add_right _ _
      · have := ih 0 n z
        rw [List.length_cons]
        omega
    · have := ih (k + 1) n h
      rw [List.length_cons]
      omega
/-- the lengths of split's parts -/
theorem split_len {x y : Str} (hy : tl y = [49]) : (Txt.split x y).map (fun z => z.length) = runL 0 (tl x) := by
  have hk : ¬ Builtin.Str.strKind x < Builtin.Str.strKind y := kind_ok (by
    have e : y.cps = #[49] := Array.toList_inj.mp hy
    rw [e]
    simp)
  have h := split_spl x y (by rw [hy]; simp) hk
  have h2 := congrArg (List.map List.length) h
  rw [hy, spl_len] at h2
  have h3 : List.map List.length (List.map tl (Txt.split x y)) = runL 0 (tl x) := h2
  rw [← h3, List.map_map]
  refine List.map_congr_left fun z _ => ?_
  exact len_tl z
/-- the law's gaps: i the place, the last 1's place -/
def gapL : Nat → Option Nat → List Nat → List Int
  | _, _, [] => []
  | i, last, c :: r => if c = 49 then (match last with | some j => [(i : Int) - j - 1] | none => []) ++ gapL (i + 1) (some i) r else gapL (i + 1) last r
theorem gap_some : ∀ (l : List Nat) (i j k : Nat), i = j + 1 + k → gapL i (some j) l = (runL k l).dropLast.map (fun (n : Nat) => (n : Int))
  | [], i, j, k, h => rfl
  | c :: r, i, j, k, h => by
    unfold gapL runL
    by_cases e : c = 49
    · rw [if_pos e, if_pos e, gap_some r (i + 1) i 0 (by omega), List.dropLast_cons_of_ne_nil (runL_ne _ _), List.map_cons]
      show [(i : Int) - j - 1] ++ _ = _
      rw [show (i : Int) - j - 1 = (k : Int) by omega]
      rfl
    · rw [if_neg e, if_neg e]
      exact gap_some r (i + 1) j (k + 1) (by omega)
theorem gap_none : ∀ (l : List Nat) (i k : Nat), gapL i none l = ((runL k l).drop 1).dropLast.map (fun (n : Nat) => (n : Int))
  | [], i, k => rfl
  | c :: r, i, k => by
    unfold gapL runL
    by_cases e : c = 49
    · rw [if_pos e, if_pos e, gap_some r (i + 1) i 0 (by omega)]
      rfl
    · rw [if_neg e, if_neg e]
      exact gap_none r (i + 1) (k + 1)
/-- the law's idle: (most, here) led along -/
def idleL : Int → Int → List Nat → Int
  | m, _, [] => m
  | m, h, c :: r => idleL (max m (if c = 48 then h + 1 else 0)) (if c = 48 then h + 1 else 0) r
/-- the greatest of a list of at least one -/
def IsMax (m : Int) (l : List Int) : Prop := m ∈ l ∧ ∀ x ∈ l, x ≤ m
theorem IsMax.eq {m n : Int} {l : List Int} (a : IsMax m l) (b : IsMax n l) : m = n := Int.le_antisymm (b.2 _ a.1) (a.2 _ b.1)
theorem idle_max : ∀ (l : List Nat), Pure l → ∀ (k : Nat) (m : Int), (k : Int) ≤ m → ∃ t, IsMax t ((runL k l).map (fun (n : Nat) => (n : Int))) ∧ idleL m k l = max m t
  | [], _, k, m, h => ⟨k, ⟨by simp [runL], by simp [runL]⟩, by simp [idleL]; omega⟩
  | c :: r, hp, k, m, h => by
    have hr : Pure r := fun d hd => hp d (List.mem_cons_of_mem _ hd)
    unfold idleL runL
    rcases hp c List.mem_cons_self with e | e
    · rw [if_pos e, if_neg (by omega)]
      obtain ⟨t, ht, q⟩ := idle_max r hr (k + 1) (max m ((k : Int) + 1)) (by push_cast; omega)
      have hk : (k : Int) + 1 ≤ t := by
        obtain ⟨x, hx⟩ : ∃ x, x ∈ runL (k + 1) r ∧ k + 1 ≤ x := by
          have gen : ∀ (l : List Nat) (k : Nat), ∃ x, x ∈ runL k l ∧ k ≤ x := by
            intro l
            induction l with
            | nil => intro k; exact ⟨k, by simp [runL], Nat.le_refl _⟩
            | cons c r ih =>
              intro k
              unfold runL
              split
              · exact ⟨k, by simp, Nat.le_refl _⟩
              · obtain ⟨x, h1, h2⟩ := ih (k + 1)
                exact ⟨x, h1, by omega⟩
          exact gen r (k + 1)
        have := ht.2 (x : Int) (List.mem_map.mpr ⟨x, hx.1, rfl⟩)
        omega
      refine ⟨t, ht, ?_⟩
      have q' : idleL (max m ((k : Int) + 1)) ((k : Int) + 1) r = max (max m ((k : Int) + 1)) t := by
        have := q
        push_cast at this
        exact this
      rw [q']
      omega
    · rw [if_pos e, if_neg (by omega)]
      obtain ⟨t, ht, q⟩ := idle_max r hr 0 (max m 0) (by omega)
      refine ⟨max (k : Int) t, ⟨?_, fun x hx => ?_⟩, ?_⟩
      · rw [List.map_cons]
        by_cases hkt : (k : Int) ≤ t
        · rw [Int.max_eq_right hkt]
          exact List.mem_cons_of_mem _ ht.1
        · rw [Int.max_eq_left (by omega)]
          exact List.mem_cons_self
      · rw [List.map_cons] at hx
        rcases List.mem_cons.mp hx with z | z
        · omega
        · have := ht.2 x z
          omega
      · have q' : idleL (max m 0) 0 r = max (max m 0) t := by
          have := q
          push_cast at this
          exact this
        rw [q']
        omega
theorem idle_is {l : List Nat} (hp : Pure l) {t : Int} (ht : IsMax t ((runL 0 l).map (fun (n : Nat) => (n : Int)))) : idleL 0 0 l = t := by
  obtain ⟨u, hu, q⟩ := idle_max l hp 0 0 (Int.le_refl _)
  have e := hu.eq ht
  subst e
  have h0 : 0 ≤ u := by
    obtain ⟨n, _, e⟩ := List.mem_map.mp hu.1
    omega
  have q' : idleL 0 0 l = max 0 u := q
  rw [q']
  omega

/-! ### sums along a row -/
/-- the sums ahead of each place and at the end, from h on -/
def sumL : Int → List Nat → List Int
  | h, [] => [h]
  | h, c :: r => h :: sumL (if c = 49 then h + 1 else h - 1) r
def step (h : Int) (c : Nat) : Int := if c = 49 then h + 1 else h - 1
def endS (l : List Nat) : Int := l.foldl step 0
/-- the highest, the lowest of them, led along -/
def hiS (l : List Nat) : Int × Int × Int := l.foldl (fun st c => let h := step st.1 c; (h, (if h > st.2.1 then h else st.2.1), (if h < st.2.2 then h else st.2.2))) (0, 0, 0)
theorem hiS_snoc (l : List Nat) (c : Nat) : hiS (l ++ [c]) = (step (hiS l).1 c, (if step (hiS l).1 c > (hiS l).2.1 then step (hiS l).1 c else (hiS l).2.1), (if step (hiS l).1 c < (hiS l).2.2 then step (hiS l).1 c else (hiS l).2.2)) := by
  unfold hiS
  rw [List.foldl_append]
  rfl
theorem take_snoc {l : List Nat} {i c : Nat} (h : l[i]? = some c) : l.take (i + 1) = l.take i ++ [c] := by
  rw [List.take_add_one, h]
  rfl
/-- all sums of the beginnings -/
def sums (l : List Nat) : List Int := (List.range (l.length + 1)).map fun i => (hiS (l.take i)).1
theorem sums_len (l : List Nat) : (sums l).length = l.length + 1 := by simp [sums]
theorem hiS_top (l : List Nat) : IsMax (hiS l).2.1 (sums l) ∧ ((hiS l).2.2 ∈ sums l ∧ ∀ x ∈ sums l, (hiS l).2.2 ≤ x) := by
  have gen : ∀ n, n ≤ l.length → IsMax (hiS (l.take n)).2.1 ((List.range (n + 1)).map fun i => (hiS (l.take i)).1) ∧
      ((hiS (l.take n)).2.2 ∈ ((List.range (n + 1)).map fun i => (hiS (l.take i)).1) ∧ ∀ x ∈ ((List.range (n + 1)).map fun i => (hiS (l.take i)).1), (hiS (l.take n)).2.2 ≤ x) := by
    intro n
    induction n with
    | zero =>
      intro _
      simp [IsMax, hiS]
    | succ n ih =>
      intro hn
      obtain ⟨⟨a1, a2⟩, b1, b2⟩ := ih (by omega)
      have hg : l[n]? = some l[n] := List.getElem?_eq_getElem (by omega)
      have e : (List.range (n + 1 + 1)).map (fun i => (hiS (l.take i)).1) = ((List.range (n + 1)).map fun i => (hiS (l.take i)).1) ++ [(hiS (l.take (n + 1))).1] := by
        rw [List.range_succ, List.map_append]
        rfl
      have e2 := hiS_snoc (l.take n) l[n]
      rw [← take_snoc hg] at e2
      have f1 : (hiS (l.take (n + 1))).1 = step (hiS (l.take n)).1 l[n] := by rw [e2]
      have f2 : (hiS (l.take (n + 1))).2.1 = if step (hiS (l.take n)).1 l[n] > (hiS (l.take n)).2.1 then step (hiS (l.take n)).1 l[n] else (hiS (l.take n)).2.1 := by rw [e2]
      have f3 : (hiS (l.take (n + 1))).2.2 = if step (hiS (l.take n)).1 l[n] < (hiS (l.take n)).2.2 then step (hiS (l.take n)).1 l[n] else (hiS (l.take n)).2.2 := by rw [e2]
      rw [e, f2, f3]
      have f1' := f1
      generalize hh : step (hiS (l.take n)).1 l[n] = h at *
      rw [f1']
      refine ⟨⟨?_, fun x hx => ?_⟩, ?_, fun x hx => ?_⟩
      · split
        · exact List.mem_append_right _ (by simp)
        · exact List.mem_append_left _ a1
      · rcases List.mem_append.mp hx with z | z
        · have := a2 x z
          split <;> omega
        · obtain rfl : x = h := by simpa using z
          split <;> omega
      · split
        · exact List.mem_append_right _ (by simp)
        · exact List.mem_append_left _ b1
      · rcases List.mem_append.mp hx with z | z
        · have := b2 x z
          split <;> omega
        · obtain rfl : x = h := by simpa using z
          split <;> omega
  have := gen l.length (Nat.le_refl _)
  rw [List.take_length] at this
  exact this
/-- what is at least as far as all two sums are apart, and is so far itself, is the swing -/
theorem swing_is {l : List Nat} {m : Int} (h1 : ∀ a ∈ sums l, ∀ b ∈ sums l, b - a ≤ m) (h2 : ∃ a ∈ sums l, ∃ b ∈ sums l, m = b - a ∨ m = a - b) : m = (hiS l).2.1 - (hiS l).2.2 := by
  obtain ⟨⟨a1, a2⟩, b1, b2⟩ := hiS_top l
  have g1 := h1 _ b1 _ a1
  obtain ⟨a, ha, b, hb, e⟩ := h2
  have c1 := a2 a ha
  have c2 := a2 b hb
  have c3 := b2 a ha
  have c4 := b2 b hb
  rcases e with e | e <;> omega
end Pw

set_option Elab.async false
set_option linter.all false
set_option maxRecDepth 100000
set_option maxHeartbeats 4000000
namespace Pw
open PySem PySem.Spec PyProof.Rows
/-- how many unlike texts -/
def dist : List Str → Nat
  | [] => 0
  | x :: r => if r.any (· == x) = true then dist r else dist r + 1
def cntD (l : List Str) : Nat := dist l.reverse
theorem cntD_snoc (l : List Str) (x : Str) : cntD (l ++ [x]) = if l.any (· == x) = true then cntD l else cntD l + 1 := by
  unfold cntD
  rw [List.reverse_append]
  show (if l.reverse.any (· == x) = true then dist l.reverse else dist l.reverse + 1) = _
  rw [List.any_reverse]
theorem dist_cons (x : Str) (r : List Str) : dist (x :: r) = if r.any (· == x) = true then dist r else dist r + 1 := rfl
theorem dist_le : ∀ l : List Str, dist l ≤ l.length
  | [] => Nat.le_refl _
  | x :: r => by
    have := dist_le r
    unfold dist
    split
    · rw [List.length_cons]
      omega
    · rw [List.length_cons]
      omega
theorem cntD_le (l : List Str) : cntD l ≤ l.length := by
  unfold cntD
  have := dist_le l.reverse
  rw [List.length_reverse] at this
  exact this
theorem any_mem {l : List Str} {x : Str} : l.any (· == x) = true ↔ x ∈ l := by
  rw [List.any_eq_true]
  constructor
  · rintro ⟨y, h1, h2⟩
    rw [← beq_iff_eq.mp h2]
    exact h1
  · intro h
    exact ⟨x, h, beq_self_eq_true x⟩
theorem dist_nodup : ∀ l : List Str, dist l = l.length ↔ l.Nodup
  | [] => by simp [dist]
  | x :: r => by
    have ih := dist_nodup r
    have hle := dist_le r
    rw [List.nodup_cons, ← ih, List.length_cons, dist_cons]
    by_cases h : r.any (· == x) = true
    · rw [if_pos h]
      constructor
      · intro e
        omega
      · rintro ⟨h1, _⟩
        exact absurd (any_mem.mp h) h1
    · rw [if_neg h]
      constructor
      · intro e
        exact ⟨fun z => h (any_mem.mpr z), by omega⟩
      · rintro ⟨_, h2⟩
        omega
theorem cntD_nodup (l : List Str) : cntD l = l.length ↔ l.Nodup := by
  unfold cntD
  have := dist_nodup l.reverse
  rw [List.length_reverse] at this
  rw [this]
  unfold List.Nodup
  rw [List.pairwise_reverse]
  exact ⟨fun h => h.imp fun z => Ne.symm z, fun h => h.imp fun z => Ne.symm z⟩
section
variable {prog : Program} {w : World} {A : Around} {R : Result → Shared → Prop} {I : Addr} {fp wr : List Addr} {G : Array GenState → Array GenState → Prop} {n : Nat} {P : Nat → Value → Prop} {St : Nat → Shared → Prop}
theorem fill_loop (W : WalksS prog w A.in1 I fp wr G n P St) (S : Addr) (hSf : S ∉ fp) (xs : List Str) (hsz : xs.length = n) (hn : n ≤ 60) (hval : ∀ i v, P i v → ∃ t, v = .str (xs.getD i Str.empty) t) :
    ∀ (k i : Nat) (s : Shared), n - i = k → i ≤ n → St i s → s.heap.SetOf (PySem.strKind prog w) S (fun y => (xs.take i).any (· == y)) (cntD (xs.take i)) →
      (∀ s', Moved (S :: wr) G s s' → s'.heap.SetOf (PySem.strKind prog w) S (fun y => (xs.take n).any (· == y)) (cntD (xs.take n)) → R (.ok (.ret .none)) s') →
      codeAny (model prog w) A (.builtin "set.update.loop" ⟨[.ref S, .ref I], []⟩) R s := by
  have nSw : S ∉ wr := fun h => hSf (W.sub _ h)
  have inW : ∀ b ∈ wr, b ∈ S :: wr := fun b hb => List.mem_cons_of_mem _ hb
  intro k
  induction k with
  | zero =>
    intro i s hk hi hst hS hR
    obtain rfl : i = n := by omega
    refine codeAny_builtin PyProof.Rows.F.entry_set_update_loop ?_
    rw [Around.under_plainId PyProof.Rows.F.plain_set_update_loop _]
    show wpAny _ A.in1 (pyNext (.ref I) >>= _) _ _ s
    refine wpAny_bind (W.done s _ _ hst fun s' hm => ?_)
    show wpAny _ A.in1 (ret Value.none) _ _ s'
    exact wpAny_pure (hR s' (hm.mono inW) (let ⟨o, es, ep, t, ho, rest⟩ := hS; ⟨o, es, ep, t, hm.heap S _ nSw ho, rest⟩))
  | succ k ih =>
    intro i s hk hi hst hS hR
    have hlt : i < n := by omega
    have hix : i < xs.length := by omega
    refine codeAny_builtin PyProof.Rows.F.entry_set_update_loop ?_
    rw [Around.under_plainId PyProof.Rows.F.plain_set_update_loop _]
    show wpAny _ A.in1 (pyNext (.ref I) >>= _) _ _ s
    refine wpAny_bind (W.item i s _ _ hlt hst fun v s' hP hst' hm => ?_)
    obtain ⟨t, rfl⟩ := hval i v hP
    have eget : xs.getD i Str.empty = xs[i] := by simp [List.getD, hix]
    rw [eget]
    have hS' : s'.heap.SetOf (PySem.strKind prog w) S (fun y => (xs.take i).any (· == y)) (cntD (xs.take i)) := let ⟨o, es, ep, tb, ho, rest⟩ := hS; ⟨o, es, ep, tb, hm.heap S _ nSw ho, rest⟩
    have hroom : cntD (xs.take i) + 1 < scanBound := by
      have := cntD_le (xs.take i)
      rw [List.length_take] at this
      unfold scanBound
      omega
    show wpAny _ A.in1 (holding [Value.str xs[i] t] (setAdd S (.str xs[i] t)) >>= _) _ _ s'
    refine wpAny_bind (wpAny_holding ?_)
    unfold setAdd
    refine wpAny_holding ?_
    refine wpAny_bind ((PySem.strKind prog w).pyHash (k := xs[i]) (strKind_is _ _ _ _) ?_)
    refine wpAny_setAddHashed_of (knd := PySem.strKind prog w) (s := { s' with toks := s'.toks + 1 }) (strKind_is _ _ _ _) rfl hS' hroom fun h' hsb hS2 => ?_
    have etake : xs.take (i + 1) = xs.take i ++ [xs[i]] := by
      rw [List.take_add_one, List.getElem?_eq_getElem hix]
      rfl
    have hSi : h'.SetOf (PySem.strKind prog w) S (fun y => (xs.take (i + 1)).any (· == y)) (cntD (xs.take (i + 1))) := by
      refine SetOf_congr hS2 (fun y => ?_) ?_
      · rw [etake, List.any_append]
        congr 1
        by_cases e : y = xs[i]
        · subst e
          simp
        · have hb : (xs[i] == y) = false := by simpa [beq_iff_eq] using (fun z : xs[i] = y => e z.symm)
          simp [hb, e]
      · rw [etake, cntD_snoc]
    refine wpAny_pure ⟨plainId_quiet PyProof.Rows.F.plain_set_update_loop _, ih (i + 1) _ (by omega) hlt (W.frame _ s' _ _ hst' (Nat.le_succ _) fun b hb o e => ?_) hSi fun s'' hm'' hS'' => ?_⟩
    · rw [hsb.2 b (fun z : b = S => hSf (by rw [← z]; exact hb))]
      exact e
    · refine hR s'' (Moved.trans W.gtrans ((hm.mono inW).then_heap (Nat.le_succ _) fun b o hb e => ?_) hm'') hS''
      rw [hsb.2 b (fun z : b = S => hb (by rw [z]; exact List.mem_cons_self))]
      exact e
end
/-- the object of an empty set -/
abbrev set0 (led : Bool) : Obj := { cls := .type "set", dict := none, data := .set #[] 0 (.fresh 0 0 led) }
section
variable {prog : Program} {w : World} {A : Around} {E : Value → Shared → Prop} {s : Shared}
/-- set(x), once its __init__ is walked -/
theorem set_by {x : Addr} {xs : List Str} {n : Nat} {Q : Value → Shared → Prop}
    (hinit : ∀ (led : Bool) (R : Fin → Shared → Prop) (E' : Value → Shared → Prop), (∀ (h' : Heap) (tk : Nat), h'.SetOf (PySem.strKind prog w) s.heap.objs.size (fun y => (xs.take n).any (· == y)) (cntD (xs.take n)) → (∀ b o, b < s.heap.objs.size → s.heap.get? b = some o → h'.get? b = some o) → R (.done (.ret .none)) { s with heap := h', toks := tk }) →
      wpAny (model prog w) A.in1.in1 (Builtin.«set.__init__» ⟨[.ref s.heap.objs.size, .ref x], []⟩) R E' { s with heap := s.heap.push (set0 led) })
    (h : ∀ (h' : Heap) (tk : Nat), h'.SetOf (PySem.strKind prog w) s.heap.objs.size (fun y => (xs.take n).any (· == y)) (cntD (xs.take n)) → (∀ b o, b < s.heap.objs.size → s.heap.get? b = some o → h'.get? b = some o) → Q (.ref s.heap.objs.size) { s with heap := h', toks := tk }) :
    wpAny (model prog w) A (call (.type "set") [.ref x]) Q E s := by
  obtain ⟨c, tl, hmro⟩ := PySem.F.called_set.mro
  have hmade := PySem.F.called_set.made
  have hsub := PySem.F.called_set.sub
  refine wpAny_call (codeAny_of_tree ?_)
  show wpAny _ _ (callAny (.type "set") _) _ _ _
  refine wpAny_pure ⟨Code.quiet_builtin _ (by decide +kernel), codeAny_builtin PySem.F.entry_type_call ?_⟩
  rw [Around.under_plain (weight_type_call_type "set" [.ref x] []) rfl]
  have h1 := PySem.F.called_set.notType
  have h2 := PySem.F.called_set.canCreate
  have hct := PySem.F.typeCall_set_1 (.ref x)
  repeat (any_goals (first | assumption | wp_step))
  refine codeAny_mono (code_set_new_1 (.ref x) (E := E) (Q₁ := fun obj s₁ => ∃ led : Bool, obj = .ref s.heap.objs.size ∧ s₁ = { s with heap := s.heap.push (set0 led) }) fun led => ⟨led, rfl, rfl⟩) fun r s₁ hr => ?_
  cases r with
  | error e => exact hr
  | ok fl =>
    cases fl with
    | ret obj =>
      obtain ⟨led, rfl, rfl⟩ := hr
      have hS : (s.heap.push (set0 led)).get? s.heap.objs.size = some (set0 led) := Heap.get?_push_size _ rfl
      have hT : Shared.TypeIs { s with heap := s.heap.push (set0 led) } (.ref s.heap.objs.size) "set" := ⟨_, hS, rfl⟩
      have hli := PySem.F.called_set.init.lookup
      have hbi := PySem.F.called_set.init.bind (.ref s.heap.objs.size)
      repeat (any_goals (first | assumption | wp_step))
      refine codeAny_mono (codeAny_call_builtin (R := wants (fun r s₂ => r = .none ∧ ∃ h' tk, s₂ = { s with heap := h', toks := tk } ∧ h'.SetOf (PySem.strKind prog w) s.heap.objs.size (fun y => (xs.take n).any (· == y)) (cntD (xs.take n)) ∧
          (∀ b o, b < s.heap.objs.size → s.heap.get? b = some o → h'.get? b = some o)) E) PySem.F.called_set.init.plain PySem.F.entry_set_init (check_set_init_1 hT ?_)) fun r₂ s₂ hr₂ => ?_
      · exact hinit led _ _ fun h' tk a b => ⟨rfl, h', tk, rfl, a, b⟩
      · cases r₂ with
        | error e => exact hr₂
        | ok fl₂ =>
          cases fl₂ with
          | ret r =>
            obtain ⟨rfl, h', tk, rfl, hS', hk'⟩ := hr₂
            repeat (any_goals (first | assumption | wp_step))
            exact h _ _ hS' hk'
          | _ => exact hr₂.elim
    | _ => exact hr.elim
theorem set_list {x : Addr} {items : Array Value} {xs : List Str} {Q : Value → Shared → Prop} (hh : A.handled = none) (hl : s.heap.IsList x items) (hi : PyProof.Rows.StrsAre items.toList xs) (hn : xs.length ≤ 60)
    (h : ∀ (h' : Heap) (tk : Nat), h'.SetOf (PySem.strKind prog w) s.heap.objs.size (fun y => (xs.take items.size).any (· == y)) (cntD (xs.take items.size)) → (∀ b o, b < s.heap.objs.size → s.heap.get? b = some o → h'.get? b = some o) → Q (.ref s.heap.objs.size) { s with heap := h', toks := tk }) :
    wpAny (model prog w) A (call (.type "set") [.ref x]) Q E s := by
  refine set_by (n := items.size) (fun led R E' hR => ?_) h
  obtain ⟨⟨ocls, odict, odata, oslots⟩, hol, hcl, nl, hdl⟩ := hl
  simp only at hcl hdl
  subst hcl
  subst hdl
  have hS : (s.heap.push (set0 led)).get? s.heap.objs.size = some (set0 led) := Heap.get?_push_size _ rfl
  have hol' : (s.heap.push (set0 led)).get? x = some { cls := .type "list", dict := odict, data := .seq items nl, slots := oslots } := Heap.get?_push_of_some _ hol
  have hsls := PySem.F.sub_list_set
  have hslf := PySem.F.sub_list_frozenset
  have hne : (Value.type "list" == Value.type "dict") = false := by decide
  have hl1 : (s.heap.push (set0 led)).IsList x items := ⟨_, hol', rfl, nl, rfl⟩
  unfold Builtin.«set.__init__» noKeywords Builtin.Frozenset.updateFrom
  generalize hPI : pyIter = PI
  wp_walk
  subst hPI
  refine wpAny_pyIter_list hl1 (wpAny_bind (wpAny_runValue ?_))
  have hlS : x < s.heap.objs.size := Heap.lt_size hol
  have hh3 : A.in1.in1.in1.handled = none := by simp [hh]
  have hneI : x ≠ (s.heap.push (set0 led)).objs.size := by
    rw [Heap.size_push]
    exact Nat.ne_of_lt (Nat.lt_succ_of_lt hlS)
  have hSf : s.heap.objs.size ∉ [(s.heap.push (set0 led)).objs.size, x] := by
    rw [Heap.size_push]
    simp only [List.mem_cons, List.mem_singleton, List.not_mem_nil, or_false, not_or]
    exact ⟨Nat.ne_of_lt (Nat.lt_succ_self _), Nat.ne_of_gt hlS⟩
  have hsz : xs.length = items.size := by rw [← StrsAre.len_eq hi, Array.length_toList]
  have hval : ∀ (i : Nat) (v : Value), items[i]? = some v → ∃ t, v = .str (xs.getD i Str.empty) t := fun i v hv => SS.strs_at hi i v (by rw [Array.getElem?_toList]; exact hv)
  refine fill_loop ((Walks.list hh3 _ x hneI items).toS) s.heap.objs.size hSf xs hsz (by rw [← hsz]; exact hn) hval (items.size - 0) 0 _ (by omega) (Nat.zero_le _) ⟨⟨_, Heap.get?_push_size _ rfl, rfl, rfl⟩, (hl1.push _)⟩ ?hS0 ?hR
  case hS0 =>
    have hget : ((s.heap.push (set0 led)).push { cls := .type "list_iterator", data := .fields #[.ref x, .int 0 0] }).get? s.heap.objs.size = some (set0 led) := Heap.get?_push_of_some _ hS
    exact PyProof.Rows.SetOf_congr ((PyProof.Rows.setObjOf_fresh (knd := PySem.strKind prog w) led).setOf hget (by unfold scanBound; omega)) (fun _ => rfl) rfl
  case hR =>
    intro s' hm hS'
    obtain ⟨h', g', d', tk', os'⟩ := s'
    obtain rfl : g' = s.gens := hm.gens
    obtain rfl : d' = s.drawn := hm.drawn
    obtain rfl : os' = s.os := hm.os
    show wpAny _ _ _ _ _ _
    refine wpAny_pure ?_
    show wpAny _ _ (ret Value.none) _ _ _
    refine wpAny_pure (hR h' tk' hS' fun b o hb e => ?_)
    have hb1 : b ≠ s.heap.objs.size := Nat.ne_of_lt hb
    have hb2 : b ≠ (s.heap.push (set0 led)).objs.size := by
      rw [Heap.size_push]
      exact Nat.ne_of_lt (Nat.lt_succ_of_lt hb)
    exact hm.heap b o (by simp only [List.mem_cons, List.mem_singleton, List.not_mem_nil, or_false, not_or]; exact ⟨hb1, hb2⟩) (Heap.get?_push_of_some _ (Heap.get?_push_of_some _ e))
theorem set_tuple {x : Addr} {items : Array Value} {xs : List Str} {Q : Value → Shared → Prop} (hh : A.handled = none) (hl : s.heap.IsTuple x items) (hi : PyProof.Rows.StrsAre items.toList xs) (hn : xs.length ≤ 60)
    (h : ∀ (h' : Heap) (tk : Nat), h'.SetOf (PySem.strKind prog w) s.heap.objs.size (fun y => (xs.take items.size).any (· == y)) (cntD (xs.take items.size)) → (∀ b o, b < s.heap.objs.size → s.heap.get? b = some o → h'.get? b = some o) → Q (.ref s.heap.objs.size) { s with heap := h', toks := tk }) :
    wpAny (model prog w) A (call (.type "set") [.ref x]) Q E s := by
  refine set_by (n := items.size) (fun led R E' hR => ?_) h
  obtain ⟨⟨ocls, odict, odata, oslots⟩, hol, hcl, nl, hdl⟩ := hl
  simp only at hcl hdl
  subst hcl
  subst hdl
  have hS : (s.heap.push (set0 led)).get? s.heap.objs.size = some (set0 led) := Heap.get?_push_size _ rfl
  have hol' : (s.heap.push (set0 led)).get? x = some { cls := .type "tuple", dict := odict, data := .seq items nl, slots := oslots } := Heap.get?_push_of_some _ hol
  have hsls := PySem.F.sub_tuple_set
  have hslf := PySem.F.sub_tuple_frozenset
  have hne : (Value.type "tuple" == Value.type "dict") = false := by decide
  have hl1 : (s.heap.push (set0 led)).IsTuple x items := ⟨_, hol', rfl, nl, rfl⟩
  unfold Builtin.«set.__init__» noKeywords Builtin.Frozenset.updateFrom
  generalize hPI : pyIter = PI
  wp_walk
  subst hPI
  refine wpAny_pyIter_tuple hl1 (wpAny_bind (wpAny_runValue ?_))
  have hlS : x < s.heap.objs.size := Heap.lt_size hol
  have hh3 : A.in1.in1.in1.handled = none := by simp [hh]
  have hneI : x ≠ (s.heap.push (set0 led)).objs.size := by
    rw [Heap.size_push]
    exact Nat.ne_of_lt (Nat.lt_succ_of_lt hlS)
  have hSf : s.heap.objs.size ∉ [(s.heap.push (set0 led)).objs.size, x] := by
    rw [Heap.size_push]
    simp only [List.mem_cons, List.mem_singleton, List.not_mem_nil, or_false, not_or]
    exact ⟨Nat.ne_of_lt (Nat.lt_succ_self _), Nat.ne_of_gt hlS⟩
  have hsz : xs.length = items.size := by rw [← StrsAre.len_eq hi, Array.length_toList]
  have hval : ∀ (i : Nat) (v : Value), items[i]? = some v → ∃ t, v = .str (xs.getD i Str.empty) t := fun i v hv => SS.strs_at hi i v (by rw [Array.getElem?_toList]; exact hv)
  refine fill_loop ((Walks.tuple hh3 _ x hneI items).toS) s.heap.objs.size hSf xs hsz (by rw [← hsz]; exact hn) hval (items.size - 0) 0 _ (by omega) (Nat.zero_le _) ⟨⟨_, Heap.get?_push_size _ rfl, rfl, rfl⟩, (hl1.push _)⟩ ?hS0 ?hR
  case hS0 =>
    have hget : ((s.heap.push (set0 led)).push { cls := .type "tuple_iterator", data := .fields #[.ref x, .int 0 0] }).get? s.heap.objs.size = some (set0 led) := Heap.get?_push_of_some _ hS
    exact PyProof.Rows.SetOf_congr ((PyProof.Rows.setObjOf_fresh (knd := PySem.strKind prog w) led).setOf hget (by unfold scanBound; omega)) (fun _ => rfl) rfl
  case hR =>
    intro s' hm hS'
    obtain ⟨h', g', d', tk', os'⟩ := s'
    obtain rfl : g' = s.gens := hm.gens
    obtain rfl : d' = s.drawn := hm.drawn
    obtain rfl : os' = s.os := hm.os
    show wpAny _ _ _ _ _ _
    refine wpAny_pure ?_
    show wpAny _ _ (ret Value.none) _ _ _
    refine wpAny_pure (hR h' tk' hS' fun b o hb e => ?_)
    have hb1 : b ≠ s.heap.objs.size := Nat.ne_of_lt hb
    have hb2 : b ≠ (s.heap.push (set0 led)).objs.size := by
      rw [Heap.size_push]
      exact Nat.ne_of_lt (Nat.lt_succ_of_lt hb)
    exact hm.heap b o (by simp only [List.mem_cons, List.mem_singleton, List.not_mem_nil, or_false, not_or]; exact ⟨hb1, hb2⟩) (Heap.get?_push_of_some _ (Heap.get?_push_of_some _ e))
end
open L2
/-- len(set(xs)), xs a list or tuple of texts -/
def tLenD (K : PySem.W.Frag) (ta : TE) : TE := fun σ H Q => ta σ H fun x H1 => ∃ l, ∃ xs : List Str, x = .ref l ∧ (SqL K H1 l (xs.map V.str) ∨ SqT K H1 l (xs.map V.str)) ∧ xs.length ≤ 60 ∧ Q (.int (cntD xs : Nat)) H1
theorem pe_lenD {X : Cx} {a : Expr} {ta : TE} {p p2 q pos : Pos} (hc : X.calm = true) (hg : Gl X "len") (hm : X.mg "len" = none) (hg2 : Gl X "set") (hm2 : X.mg "set" = none) (ha : PE X a ta)
    (na : starEach [a] X.env = (false, eval a X.env) :: starEach [] X.env := by rfl) : PE X (.Call (.Name "len" p) [.Call (.Name "set" p2) [a] [] q] [] pos) (tLenD X.K ta) := by
  refine ⟨fun pns s τ G Q I h => ?_⟩
  refine Call_ (ld_blt I hg hm boot_len (PyProof.Rows.callWith_builtin1 (PyProof.Rows.args_cons (Call_ (ld_blt I hg2 hm2 boot_set ?_)) rfl) rfl rfl))
  refine PyProof.Rows.callWith_type1 (PyProof.Rows.args_cons (thn (ha.run pns s τ G _ I h) fun v s1 ⟨x, H1, I1, r1, q1⟩ => PyProof.Rows.args_nil ?_) na) na rfl
  obtain ⟨l, xs, rfl, hq, h1, q1⟩ := q1
  cases r1
  have fin : ∀ (its : List Value), Vals (xs.map V.str) its → ∀ (h' : Heap) (tk : Nat), h'.SetOf (PySem.strKind X.prog X.w) s1.heap.objs.size (fun y => (xs.take its.toArray.size).any (· == y)) (cntD (xs.take its.toArray.size)) →
      (∀ b o, b < s1.heap.objs.size → s1.heap.get? b = some o → h'.get? b = some o) →
      wpAny (model X.prog X.w) X.A (spliced (backTo pos (starEach [] X.env))) (fun vs s₂ => wpAny (model X.prog X.w) X.A (call (.builtin "len") (Value.ref s1.heap.objs.size :: vs)) (EP X pns τ Q) X.xe s₂) X.xe { s1 with heap := h', toks := tk } := fun its r h' tk hS hk => by
    refine PyProof.Rows.args_nil ?_
    have hl : its.toArray.size = xs.length := by rw [List.size_toArray, ← r.length, List.length_map]
    rw [hl, List.take_length] at hS
    obtain ⟨o, es, ep, t, ho, hex, hd, _, _, _, hf, hn⟩ := hS
    have I2 : Inv X pns τ H1 { s1 with heap := h', toks := tk } := I1.kept fun b o e => hk b o (Heap.lt_size e) e
    have hle := cntD_le xs
    exact call_len_set ho hex hd hf (by rw [hn] <;> omega) ⟨.int (cntD xs : Nat), H1, I2.tok _, ⟨_, by rw [hn]⟩, q1⟩
  rcases hq with hq | hq
  · obtain ⟨its, r, pl, hz⟩ := I1.list hq
    exact set_list (I1.ok.hd hc) pl.isList (by simpa using strsAre_of r) h1 fun h' tk hS hk => fin its r h' tk hS hk
  · obtain ⟨its, r, pl, hz⟩ := I1.tuple hq
    exact set_tuple (I1.ok.hd hc) pl (by simpa using strsAre_of r) h1 fun h' tk hS hk => fin its r h' tk hS hk
end Pw

set_option Elab.async false
set_option linter.all false
set_option maxRecDepth 100000
set_option maxHeartbeats 2000000
namespace Pw
open PySem PySem.Spec PyProof.Rows
/-! texts in order, each list of them just once -/
theorem rising_pw : ∀ (p : Str) (l : List Str), risingS p l = true → (p :: l).Pairwise (fun a b => a.cps.toList ≤ b.cps.toList)
  | p, [], _ => List.pairwise_singleton _ _
  | p, x :: r, h => by
    have h2 : (!ltCps x.cps.toList p.cps.toList && risingS x r) = true := h
    rw [Bool.and_eq_true] at h2
    have ih := rising_pw x r h2.2
    have h3 : ¬ (x.cps.toList < p.cps.toList) := by
      have := h2.1
      rw [ltCps_eq] at this
      simpa using this
    have h4 : p.cps.toList ≤ x.cps.toList := h3
    refine List.pairwise_cons.mpr ⟨fun b hb => ?_, ih⟩
    rcases List.mem_cons.mp hb with rfl | hb
    · exact h4
    · exact List.le_trans h4 ((List.pairwise_cons.mp ih).1 b hb)
theorem sortedS_pw {l : List Str} (h : sortedS l = true) : l.Pairwise (fun a b => a.cps.toList ≤ b.cps.toList) := by
  cases l with
  | nil => exact List.Pairwise.nil
  | cons x r => exact rising_pw x r h
theorem str_eq {a b : Str} (h : a.cps.toList = b.cps.toList) : a = b := by
  cases a with
  | mk x =>
    cases b with
    | mk y =>
      have : x = y := Array.toList_inj.mp h
      rw [this]
theorem sortedS_one {a b : List Str} (p : a.Perm b) (ha : sortedS a = true) (hb : sortedS b = true) : a = b :=
  List.Perm.eq_of_pairwise (le := fun a b => a.cps.toList ≤ b.cps.toList) (fun x y _ _ h1 h2 => str_eq (List.le_antisymm h1 h2)) (sortedS_pw ha) (sortedS_pw hb) p
/-! sorted(tuple of texts) -/
section
variable {prog : Program} {w : World} {A : Around} {E : Value → Shared → Prop} {s : Shared}
theorem sorted_strsT {l : Addr} {vs : List Value} {ss : List Str} {Q : Value → Shared → Prop} (hl : IsTup s.heap l vs.toArray) (hS : StrsAre vs ss) (h64 : vs.length < 64)
    (h : ∀ (g : Heap) (out : Array Value) (ss' : List Str), (∀ b o, s.heap.get? b = some o → g.get? b = some o) → StrsAre out.toList ss' → ss'.Perm ss → sortedS ss' = true →
      Q (.ref g.objs.size) { s with heap := sortedHeap (g.push (seqObj "list" vs.toArray 0)) g.objs.size vs out }) :
    wpAny (model prog w) A (call (.builtin "sorted") [.ref l]) Q E s := by
  obtain ⟨o, ho, hc, n, hd⟩ := hl
  have hz : vs.toArray.size ≤ sizeLine := by
    rw [List.size_toArray, sizeLine_eq]
    omega
  refine Calls.call_function_entry kind_sorted plain_sorted entry_sorted (args_sorted1 _) ?_
  unfold Builtin.«sorted»
  refine wpAny_bind (m := checkCount "sorted" 1 1 _) (wpAny_pure (wpAny_bind (wpAny_collect_seq l (.inr rfl) ho hc hd (fun g hk => wpAny_bind (wpAny_newList ?_)) hz)))
  have hg : (g.push (seqObj "list" vs.toArray 0)).get? g.objs.size = some (seqObj "list" vs.toArray 0) := Heap.get?_push_size _ rfl
  refine wpAny_bind (wpAny_holding (wpAny_call_entry (s := { s with heap := g.push (seqObj "list" vs.toArray 0) }) slot_list_sort ⟨_, hg, rfl⟩ entry_list_sort
    (list_sort_treeK strKind_oneLt hg hS.keysOf (fun v₁ v₂ rest e => keyKind_strs (by rw [← e]; exact hS)) h64 fun st' a1 a2 => ⟨_, rfl, ?_⟩) (args_list_sort _)))
  obtain ⟨ss', h1, h2, h3⟩ := sorted_out_str hS a1 a2
  exact wpAny_pure ⟨_, rfl, h g _ ss' hk h1 h2 h3⟩
end
open L2
/-- sorted(xs), xs a list or a tuple of texts -/
def rSortedST (K : PySem.W.Frag) : List V → Hp → VK → Prop := fun vs H Q => ∃ (a : Addr) (xs : List Str), vs = [V.ref a] ∧ (SqL K H a (xs.map V.str) ∨ SqT K H a (xs.map V.str)) ∧ xs.length < 64 ∧
  ∀ (ys : List Str) (p : Addr), ys.Perm xs → sortedS ys = true → H p = none → Q (.ref p) (upd H p (.lst (ys.map V.str)))
theorem cr_sortedST {X : Cx} : CallR X (.builtin "sorted") (rSortedST X.K) := by
  intro pins s σ H vs us Q I r h
  obtain ⟨a, xs, rfl, hs, h64, q⟩ := h
  rcases hs with hs | hs
  · exact cr_sortedS pins s σ H [V.ref a] us Q I r ⟨a, xs, rfl, hs, h64, q⟩
  · obtain ⟨its, rv, hl, _⟩ := I.tuple hs
    rw [Vals.ref1 r]
    have hlen0 := rv.length
    rw [List.length_map] at hlen0
    refine sorted_strsT hl rv.strs (by rw [← hlen0]; exact h64) fun g out ys hk h1 h2 h3 => ?_
    have I1 : Inv X pins σ H { s with heap := g } := I.kept hk
    have hg : (g.push (seqObj "list" its.toArray 0)).get? g.objs.size = some (seqObj "list" its.toArray 0) := Heap.get?_push_size _ rfl
    obtain ⟨ep, he'⟩ := sortedHeap_at (out := out) hg
    have hlen : (ys.map V.str).length ≤ sizeLine := by rw [List.length_map, h2.length_eq]; exact small64 h64
    refine ⟨.ref _, upd H g.objs.size (.lst (ys.map V.str)), I1.laid (t' := s.toks) (fun b o e => ?_) (Nat.le_refl _) ⟨hlen, out.toList, ep, vals_of_strs h1, he'⟩, rfl, q ys _ h2 h3 (I1.hok.fresh (Nat.le_refl _))⟩
    have hb : b < g.objs.size := Heap.lt_size e
    rw [sortedHeap_old (Nat.ne_of_lt hb) (Nat.lt_of_lt_of_le hb (by rw [Heap.size_push]; exact Nat.le_succ _))]
    exact Heap.get?_push_of_some _ e
end Pw

set_option Elab.async false
set_option linter.all false
set_option maxRecDepth 100000
namespace Pw
open PySem PySem.Builtin PySem.Builtin.Str PySem.StrLaws TL

/-! ### where a word stands first -/
def Has (l w : List Nat) : Prop := ∃ i, w <+: l.drop i
/-- the end of the first place at which w stands -/
def fEnd : List Nat → List Nat → Option Nat
  | [], w => if w = [] then some 0 else none
  | c :: r, w => if w <+: c :: r then some w.length else (fEnd r w).map (· + 1)
theorem has_nil {w : List Nat} (hw : w ≠ []) : ¬ Has [] w := fun ⟨i, h⟩ => by
  rw [List.drop_nil] at h
  exact hw (List.prefix_nil.mp h)
theorem has_cons {c : Nat} {r w : List Nat} : Has (c :: r) w ↔ w <+: c :: r ∨ Has r w := by
  constructor
  · rintro ⟨i, h⟩
    cases i with
    | zero => exact .inl h
    | succ i => exact .inr ⟨i, h⟩
  · rintro (h | ⟨i, h⟩)
    · exact ⟨0, h⟩
    · exact ⟨i + 1, h⟩
theorem fEnd_spec : ∀ (l w : List Nat), w ≠ [] → (fEnd l w = none ∧ ∀ i, ¬ w <+: l.drop i) ∨ ∃ i, fEnd l w = some (i + w.length) ∧ w <+: l.drop i ∧ ∀ k, k < i → ¬ w <+: l.drop k
  | [], w, hw => by
    refine .inl ⟨?_, fun i h => ?_⟩
    · unfold fEnd
      rw [if_neg hw]
    · exact has_nil hw ⟨i, h⟩
  | c :: r, w, hw => by
    unfold fEnd
    by_cases h : w <+: c :: r
    · rw [if_pos h]
      exact .inr ⟨0, by rw [Nat.zero_add], h, fun k hk => absurd hk (Nat.not_lt_zero _)⟩
    · rw [if_neg h]
      rcases fEnd_spec r w hw with ⟨e, hn⟩ | ⟨i, e, hi, hk⟩
      · refine .inl ⟨by rw [e]; rfl, fun i => ?_⟩
        cases i with
        | zero => exact h
        | succ i => exact hn i
      · refine .inr ⟨i + 1, ?_, hi, fun k hk2 => ?_⟩
        · rw [e]
          show some (i + w.length + 1) = some (i + 1 + w.length)
          congr 1
          omega
        · cases k with
          | zero => exact h
          | succ k => exact hk k (by omega)
theorem fEnd_none {l w : List Nat} (hw : w ≠ []) : fEnd l w = none ↔ ¬ Has l w := by
  rcases fEnd_spec l w hw with ⟨e, hn⟩ | ⟨i, e, hi, hk⟩
  · exact ⟨fun _ ⟨i, h⟩ => hn i h, fun _ => e⟩
  · constructor
    · intro h
      rw [e] at h
      cases h
    · intro h
      exact absurd ⟨i, hi⟩ h
theorem fEnd_some {l w : List Nat} (hw : w ≠ []) : (fEnd l w).isSome = true ↔ Has l w := by
  cases h : fEnd l w with
  | none =>
    have := (fEnd_none hw).mp h
    exact ⟨fun z => (nomatch z), fun z => absurd z this⟩
  | some e =>
    refine ⟨fun _ => ?_, fun _ => rfl⟩
    rcases fEnd_spec l w hw with ⟨e, hn⟩ | ⟨i, e, hi, hk⟩
    · rw [h] at e
      cases e
    · exact ⟨i, hi⟩
theorem pre_room {l w : List Nat} {i : Nat} (hw : w ≠ []) (h : w <+: l.drop i) : i + w.length ≤ l.length := by
  have h1 := h.length_le
  rw [List.length_drop] at h1
  have h2 : 0 < w.length := List.length_pos_iff.mpr hw
  omega
theorem fEnd_le {l w : List Nat} {e : Nat} (hw : w ≠ []) (h : fEnd l w = some e) : e ≤ l.length := by
  rcases fEnd_spec l w hw with ⟨e1, hn⟩ | ⟨i, e1, hi, hk⟩
  · rw [h] at e1
    cases e1
  · rw [h] at e1
    have := pre_room hw hi
    have := Option.some.inj e1
    omega
theorem has_take {l w : List Nat} {k : Nat} (hw : w ≠ []) : Has (l.take k) w ↔ ∃ e, fEnd l w = some e ∧ e ≤ k := by
  constructor
  · rintro ⟨i, h⟩
    have h2 := pre_room hw h
    rw [List.length_take] at h2
    have h3 : w <+: l.drop i := by
      rw [List.drop_take] at h
      exact h.trans (List.take_prefix _ _)
    rcases fEnd_spec l w hw with ⟨e1, hn⟩ | ⟨j, e1, hj, hk⟩
    · exact absurd h3 (hn i)
    · refine ⟨_, e1, ?_⟩
      by_cases hij : i < j
      · exact absurd h3 (hk i hij)
      · omega
  · rintro ⟨e, h1, h2⟩
    rcases fEnd_spec l w hw with ⟨e1, hn⟩ | ⟨j, e1, hj, hk⟩
    · rw [h1] at e1
      cases e1
    · rw [h1] at e1
      have e2 := Option.some.inj e1
      refine ⟨j, ?_⟩
      rw [List.drop_take]
      exact List.prefix_take_iff.mpr ⟨hj, by omega⟩
/-! ### find and in -/
theorem at_pre {x y : Str} (hy : tl y ≠ []) (i : Nat) : At x y x.length i ↔ tl y <+: (tl x).drop i := by
  rw [at_iff hy]
  show (((tl x).drop i).take (tl y).length == tl y) = true ↔ _
  rw [beq_iff_eq, List.prefix_iff_eq_take]
  exact eq_comm
theorem find_end {x y : Str} (hy : tl y ≠ []) : (Txt.find x y < 0 ∧ fEnd (tl x) (tl y) = none) ∨ ∃ i : Nat, Txt.find x y = (i : Int) ∧ fEnd (tl x) (tl y) = some (i + (tl y).length) := by
  rcases PyProof.Rows.find_whole x y with ⟨h1, h2⟩ | ⟨i, h1, h2, h3⟩
  · refine .inl ⟨by omega, (fEnd_none hy).mpr fun ⟨i, h⟩ => h2 i ((at_pre hy i).mpr h)⟩
  · refine .inr ⟨i, h1, ?_⟩
    rcases fEnd_spec (tl x) (tl y) hy with ⟨e, hn⟩ | ⟨j, e, hj, hk⟩
    · exact absurd ((at_pre hy i).mp h2) (hn i)
    · rw [e]
      have a1 : ¬ i < j := fun z => hk i z ((at_pre hy i).mp h2)
      have a2 : ¬ j < i := fun z => h3 j z ((at_pre hy j).mpr hj)
      have : j = i := by omega
      rw [this]
theorem in_has {x y : Str} (hy : tl y ≠ []) : (!(occurrences x y 0 x.length 1).isEmpty) = (fEnd (tl x) (tl y)).isSome := by
  have h1 := found_iff x y
  have h2 := fEnd_some (l := tl x) hy
  have h3 : (∃ i, i + y.length ≤ x.length ∧ subAt x y i = true) ↔ Has (tl x) (tl y) :=
    ⟨fun ⟨i, h⟩ => ⟨i, (at_pre hy i).mp h⟩, fun ⟨i, h⟩ => ⟨i, (at_pre hy i).mpr h⟩⟩
  rw [Bool.eq_iff_iff, h1, h3, h2]
/-! ### runs as words -/
def zerosL (n : Nat) : List Nat := List.replicate n 48
def gapW (m : Nat) : List Nat := 49 :: (zerosL m ++ [49])
theorem has_app {a r w : List Nat} (hw : w ≠ []) (h49 : 49 ∉ w) : Has (a ++ 49 :: r) w ↔ Has a w ∨ Has r w := by
  induction a with
  | nil =>
    rw [List.nil_append, has_cons]
    constructor
    · rintro (h | h)
      · cases w with
        | nil => exact absurd rfl hw
        | cons d w =>
          have := (List.cons_prefix_cons.mp h).1
          exact absurd (List.mem_cons_self) (this ▸ h49)
      · exact .inr h
    · rintro (h | h)
      · exact absurd h (has_nil hw)
      · exact .inr h
  | cons c a ih =>
    rw [List.cons_append, has_cons, has_cons, ih]
    constructor
    · rintro (h | h | h)
      · refine .inl (.inl ?_)
        have hl : w.length ≤ (c :: a).length := by
          by_cases z : w.length ≤ (c :: a).length
          · exact z
          · exfalso
            obtain ⟨t, ht⟩ := h
            have e := congrArg (·[(c :: a).length]?) ht
            rw [List.getElem?_append_left (by omega)] at e
            have e2 : (c :: (a ++ 49 :: r))[(c :: a).length]? = some 49 := by
              rw [show c :: (a ++ 49 :: r) = (c :: a) ++ 49 :: r from rfl, List.getElem?_append_right (Nat.le_refl _), Nat.sub_self]
              rfl
            rw [e2] at e
            exact h49 (List.mem_of_getElem? e)
        rw [show c :: (a ++ 49 :: r) = (c :: a) ++ 49 :: r from rfl] at h
        have h2 := List.prefix_iff_eq_take.mp h
        rw [List.take_append_of_le_length hl] at h2
        exact List.prefix_iff_eq_take.mpr h2
      · exact .inl (.inr h)
      · exact .inr h
    · rintro ((h | h) | h)
      · refine .inl ?_
        rw [show c :: (a ++ 49 :: r) = (c :: a) ++ 49 :: r from rfl]
        exact h.trans (List.prefix_append _ _)
      · exact .inr (.inl h)
      · exact .inr (.inr h)
theorem has_zeros (h k : Nat) : Has (zerosL k) (zerosL (h + 1)) ↔ h < k := by
  constructor
  · rintro ⟨i, hp⟩
    have := hp.length_le
    unfold zerosL at this
    rw [List.length_drop, List.length_replicate, List.length_replicate] at this
    omega
  · intro hk
    refine ⟨0, ?_⟩
    rw [List.drop_zero]
    unfold zerosL
    refine ⟨List.replicate (k - (h + 1)) 48, ?_⟩
    rw [List.replicate_append_replicate]
    congr 1
    omega
theorem zeros_ne (h : Nat) : zerosL (h + 1) ≠ [] := by
  unfold zerosL
  rw [List.replicate_succ]
  exact List.cons_ne_nil _ _
theorem zeros_no (h : Nat) : 49 ∉ zerosL h := fun z => by
  have := (List.mem_replicate.mp z).2
  omega
theorem zeros_snoc (k : Nat) (r : List Nat) : zerosL k ++ 48 :: r = zerosL (k + 1) ++ r := by
  unfold zerosL
  rw [List.replicate_succ', List.append_assoc]
  rfl
theorem idle_has (h : Nat) : ∀ (l : List Nat), Pure l → ∀ k, (∃ n ∈ runL k l, h < n) ↔ Has (zerosL k ++ l) (zerosL (h + 1))
  | [], _, k => by
    rw [List.append_nil, has_zeros]
    unfold runL
    simp
  | c :: r, hp, k => by
    have hr : Pure r := fun d hd => hp d (List.mem_cons_of_mem _ hd)
    unfold runL
    rcases hp c List.mem_cons_self with e | e
    · subst e
      rw [if_neg (by decide), idle_has h r hr (k + 1), zeros_snoc]
    · subst e
      rw [if_pos rfl, has_app (zeros_ne h) (zeros_no _), has_zeros]
      have ih := idle_has h r hr 0
      rw [show zerosL 0 ++ r = r from rfl] at ih
      rw [← ih]
      constructor
      · rintro ⟨n, hn, hl⟩
        rcases List.mem_cons.mp hn with z | z
        · exact .inl (z ▸ hl)
        · exact .inr ⟨n, z, hl⟩
      · rintro (z | ⟨n, z, hl⟩)
        · exact ⟨k, List.mem_cons_self, z⟩
        · exact ⟨n, List.mem_cons_of_mem _ z, hl⟩
theorem gap_ne (m : Nat) : gapW m ≠ [] := List.cons_ne_nil _ _
theorem has_48 {r : List Nat} {m : Nat} : Has (48 :: r) (gapW m) ↔ Has r (gapW m) := by
  rw [has_cons]
  refine ⟨fun h => ?_, .inr⟩
  rcases h with h | h
  · exact absurd (List.cons_prefix_cons.mp h).1 (by decide)
  · exact h
theorem has_zs {r : List Nat} {m : Nat} : ∀ k, Has (zerosL k ++ r) (gapW m) ↔ Has r (gapW m)
  | 0 => Iff.rfl
  | k + 1 => by
    have e : zerosL (k + 1) ++ r = 48 :: (zerosL k ++ r) := by
      unfold zerosL
      rw [List.replicate_succ]
      rfl
    rw [e, has_48, has_zs k]
theorem zeros_pre (r : List Nat) : ∀ (m k : Nat), zerosL m ++ [49] <+: zerosL k ++ 49 :: r ↔ m = k
  | 0, 0 => ⟨fun _ => rfl, fun _ => ⟨r, rfl⟩⟩
  | 0, k + 1 => by
    refine ⟨fun h => ?_, fun h => (nomatch h)⟩
    have : (49 : Nat) = 48 := (List.cons_prefix_cons.mp h).1
    exact absurd this (by decide)
  | m + 1, 0 => by
    refine ⟨fun h => ?_, fun h => (nomatch h)⟩
    have : (48 : Nat) = 49 := (List.cons_prefix_cons.mp h).1
    exact absurd this (by decide)
  | m + 1, k + 1 => by
    have e1 : zerosL (m + 1) ++ [49] = 48 :: (zerosL m ++ [49]) := by
      unfold zerosL
      rw [List.replicate_succ]
      rfl
    have e2 : zerosL (k + 1) ++ 49 :: r = 48 :: (zerosL k ++ 49 :: r) := by
      unfold zerosL
      rw [List.replicate_succ]
      rfl
    rw [e1, e2, List.cons_prefix_cons, zeros_pre r m k]
    omega
theorem gap_end (m : Nat) : ∀ k, ¬ zerosL m ++ [49] <+: zerosL k := fun k h => by
  have := h.subset (List.mem_append_right _ (List.mem_singleton.mpr rfl))
  exact zeros_no k this
theorem low_has (lo : Nat) : ∀ (l : List Nat), Pure l → ∀ k, (∃ n ∈ (runL k l).dropLast, n < lo) ↔ ∃ m, m < lo ∧ Has (49 :: (zerosL k ++ l)) (gapW m)
  | [], _, k => by
    unfold runL
    constructor
    · rintro ⟨n, hn, _⟩
      cases hn
    · rintro ⟨m, _, h⟩
      rw [List.append_nil, has_cons] at h
      rcases h with h | h
      · exact absurd (List.cons_prefix_cons.mp h).2 (gap_end m k)
      · have h2 := (has_zs (r := []) (m := m) k).mp (by rw [List.append_nil]; exact h)
        exact absurd h2 (has_nil (gap_ne m))
  | c :: r, hp, k => by
    have hr : Pure r := fun d hd => hp d (List.mem_cons_of_mem _ hd)
    unfold runL
    rcases hp c List.mem_cons_self with e | e
    · subst e
      rw [if_neg (by decide), low_has lo r hr (k + 1), zeros_snoc]
    · subst e
      have ih := low_has lo r hr 0
      rw [show zerosL 0 ++ r = r from rfl] at ih
      rw [if_pos rfl, List.dropLast_cons_of_ne_nil (runL_ne _ _)]
      have key : ∀ m, Has (49 :: (zerosL k ++ 49 :: r)) (gapW m) ↔ m = k ∨ Has (49 :: r) (gapW m) := fun m => by
        rw [has_cons, has_zs]
        unfold gapW
        rw [List.cons_prefix_cons, zeros_pre]
        constructor
        · rintro (⟨_, z⟩ | z)
          · exact .inl z
          · exact .inr z
        · rintro (z | z)
          · exact .inl ⟨rfl, z⟩
          · exact .inr z
      constructor
      · rintro ⟨n, hn, hl⟩
        rcases List.mem_cons.mp hn with z | z
        · exact ⟨k, z ▸ hl, (key k).mpr (.inl rfl)⟩
        · obtain ⟨m, hm, h2⟩ := ih.mp ⟨n, z, hl⟩
          exact ⟨m, hm, (key m).mpr (.inr h2)⟩
      · rintro ⟨m, hm, h2⟩
        rcases (key m).mp h2 with z | z
        · exact ⟨k, List.mem_cons_self, z ▸ hm⟩
        · obtain ⟨n, hn, hl⟩ := ih.mpr ⟨m, hm, z⟩
          exact ⟨n, List.mem_cons_of_mem _ hn, hl⟩
theorem low_first (lo : Nat) : ∀ (l : List Nat), Pure l → ∀ k, (∃ n ∈ ((runL k l).drop 1).dropLast, n < lo) ↔ ∃ m, m < lo ∧ Has l (gapW m)
  | [], _, k => by
    unfold runL
    constructor
    · rintro ⟨n, hn, _⟩
      cases hn
    · rintro ⟨m, _, h⟩
      exact absurd h (has_nil (gap_ne m))
  | c :: r, hp, k => by
    have hr : Pure r := fun d hd => hp d (List.mem_cons_of_mem _ hd)
    unfold runL
    rcases hp c List.mem_cons_self with e | e
    · subst e
      rw [if_neg (by decide), low_first lo r hr (k + 1)]
      constructor
      · rintro ⟨m, hm, h⟩
        exact ⟨m, hm, has_48.mpr h⟩
      · rintro ⟨m, hm, h⟩
        exact ⟨m, hm, has_48.mp h⟩
    · subst e
      rw [if_pos rfl, List.drop_succ_cons, List.drop_zero, low_has lo r hr 0]
      rfl
/-! ### the swing along a row -/
def wid (l : List Nat) : Int := (hiS l).2.1 - (hiS l).2.2
theorem wid_step (l : List Nat) (i : Nat) : wid (l.take i) ≤ wid (l.take (i + 1)) := by
  cases h : l[i]? with
  | none =>
    have hl := List.getElem?_eq_none_iff.mp h
    rw [List.take_of_length_le hl, List.take_of_length_le (by omega)]
    exact Int.le_refl _
  | some c =>
    rw [take_snoc h]
    unfold wid
    rw [hiS_snoc]
    dsimp only
    split <;> split <;> omega
theorem wid_mono (l : List Nat) {i k : Nat} (h : i ≤ k) : wid (l.take i) ≤ wid (l.take k) := by
  induction k with
  | zero =>
    have : i = 0 := by omega
    subst this
    exact Int.le_refl _
  | succ k ih =>
    by_cases e : i = k + 1
    · subst e
      exact Int.le_refl _
    · exact Int.le_trans (ih (by omega)) (wid_step l k)
/-- the first beginning that swings beyond s -/
def spanEnd (l : List Nat) : Option Int → Option Nat
  | none => none
  | some s => (List.range (l.length + 1)).find? fun i => decide (s < wid (l.take i))
theorem span_take {l : List Nat} {s : Int} {k : Nat} (hk : k ≤ l.length) : s < wid (l.take k) ↔ ∃ e, spanEnd l (some s) = some e ∧ e ≤ k := by
  unfold spanEnd
  dsimp only
  constructor
  · intro h
    cases hf : (List.range (l.length + 1)).find? fun i => decide (s < wid (l.take i)) with
    | none =>
      have := List.find?_eq_none.mp hf k (List.mem_range.mpr (by omega))
      exact absurd (decide_eq_true h) this
    | some e =>
      refine ⟨e, rfl, ?_⟩
      by_cases hek : e ≤ k
      · exact hek
      · have h2 := (List.find?_range_eq_some.mp hf).2.2 k (by omega)
        rw [decide_eq_true h] at h2
        cases h2
  · rintro ⟨e, he, hek⟩
    have h1 : s < wid (l.take e) := of_decide_eq_true (List.find?_some (p := fun i => decide (s < wid (l.take i))) he)
    exact Int.lt_of_lt_of_le h1 (wid_mono l hek)
theorem span_le {l : List Nat} {wd : Option Int} {e : Nat} (h : spanEnd l wd = some e) : e ≤ l.length := by
  cases wd with
  | none => cases h
  | some s =>
    have := List.mem_range.mp (List.mem_of_find?_eq_some h)
    omega
/-! ### what is lawful -/
/-- barred words, short gaps, long idles -/
def piecesL (xs : List Str) (lo : Int) (hi : Option Int) : List (List Nat) :=
  xs.map tl ++ (List.range lo.toNat).map gapW ++ (match hi with | none => [] | some h => [zerosL (h + 1).toNat])
def hiB (l : List Nat) : Option Int → Bool
  | none => true
  | some h => (runL 0 l).all fun n => decide ((n : Int) ≤ h)
def wdB (l : List Nat) : Option Int → Bool
  | none => true
  | some s => decide (wid l ≤ s)
def lawB (xs : List Str) (lo : Int) (hi wd : Option Int) (l : List Nat) : Bool :=
  !(xs.any fun y => (fEnd l (tl y)).isSome) &&
  (hiB l hi &&
  ((((runL 0 l).drop 1).dropLast.all fun n => decide (lo ≤ (n : Int))) &&
  wdB l wd))
def endsL (xs : List Str) (lo : Int) (hi wd : Option Int) (l : List Nat) : List (Option Nat) := (piecesL xs lo hi).map (fEnd l) ++ [spanEnd l wd]
theorem pieces_ne {xs : List Str} {lo : Int} {hi : Option Int} (hx : ∀ x ∈ xs, tl x ≠ []) (hh : ∀ h, hi = some h → 0 ≤ h) : ∀ w ∈ piecesL xs lo hi, w ≠ [] := by
  intro w hw
  unfold piecesL at hw
  rcases List.mem_append.mp hw with h | h
  · rcases List.mem_append.mp h with h | h
    · obtain ⟨x, h1, h2⟩ := List.mem_map.mp h
      exact h2 ▸ hx x h1
    · obtain ⟨x, h1, h2⟩ := List.mem_map.mp h
      exact h2 ▸ gap_ne x
  · cases hi with
    | none => cases h
    | some h' =>
      have h0 := hh h' rfl
      have e : w = zerosL (h' + 1).toNat := List.mem_singleton.mp h
      rw [e, show (h' + 1).toNat = h'.toNat + 1 by omega]
      exact zeros_ne _
theorem pure_take {l : List Nat} (h : Pure l) (k : Nat) : Pure (l.take k) := fun c hc => h c (List.mem_of_mem_take hc)
theorem all_false {α : Type} {l : List α} {p : α → Bool} : l.all p = false ↔ ∃ x ∈ l, p x = false := by
  rw [Bool.eq_false_iff, ne_eq, List.all_eq_true]
  constructor
  · intro h
    apply Classical.byContradiction
    intro h2
    refine h fun x hx => ?_
    cases e : p x with
    | true => rfl
    | false => exact absurd ⟨x, hx, e⟩ h2
  · rintro ⟨x, hx, e⟩ h
    rw [h x hx] at e
    cases e
theorem law_take {xs : List Str} {lo : Int} {hi wd : Option Int} {l : List Nat} {k : Nat} (hp : Pure l) (hx : ∀ x ∈ xs, tl x ≠ []) (hl : 0 ≤ lo) (hh : ∀ h, hi = some h → 0 ≤ h) (hk : k ≤ l.length) :
    lawB xs lo hi wd (l.take k) = false ↔ ∃ e, some e ∈ endsL xs lo hi wd l ∧ e ≤ k := by
  have hpk := pure_take hp k
  have hA : (∃ e, some e ∈ endsL xs lo hi wd l ∧ e ≤ k) ↔ (∃ x ∈ xs, Has (l.take k) (tl x)) ∨ (∃ m, m < lo.toNat ∧ Has (l.take k) (gapW m)) ∨ (∃ h, hi = some h ∧ Has (l.take k) (zerosL (h + 1).toNat)) ∨ (∃ s, wd = some s ∧ s < wid (l.take k)) := by
    constructor
    · rintro ⟨e, he, hek⟩
      unfold endsL at he
      rcases List.mem_append.mp he with h | h
      · obtain ⟨w, hw, hf⟩ := List.mem_map.mp h
        have hne := pieces_ne hx hh w hw
        have hh2 : Has (l.take k) w := (has_take hne).mpr ⟨e, hf, hek⟩
        unfold piecesL at hw
        rcases List.mem_append.mp hw with h | h
        · rcases List.mem_append.mp h with h | h
          · obtain ⟨x, h1, h2⟩ := List.mem_map.mp h
            exact .inl ⟨x, h1, h2 ▸ hh2⟩
          · obtain ⟨m, h1, h2⟩ := List.mem_map.mp h
            exact .inr (.inl ⟨m, List.mem_range.mp h1, h2 ▸ hh2⟩)
        · cases hi with
          | none => cases h
          | some h' => exact .inr (.inr (.inl ⟨h', rfl, (List.mem_singleton.mp h) ▸ hh2⟩))
      · have h2 := (List.mem_singleton.mp h).symm
        cases wd with
        | none => cases h2
        | some s => exact .inr (.inr (.inr ⟨s, rfl, (span_take hk).mpr ⟨e, h2, hek⟩⟩))
    · have put : ∀ w, w ∈ piecesL xs lo hi → Has (l.take k) w → ∃ e, some e ∈ endsL xs lo hi wd l ∧ e ≤ k := fun w hw h => by
        obtain ⟨e, h1, h2⟩ := (has_take (pieces_ne hx hh w hw)).mp h
        exact ⟨e, List.mem_append_left _ (List.mem_map.mpr ⟨w, hw, h1⟩), h2⟩
      rintro (⟨x, h1, h2⟩ | ⟨m, h1, h2⟩ | ⟨h, rfl, h2⟩ | ⟨s, rfl, h2⟩)
      · exact put _ (List.mem_append_left _ (List.mem_append_left _ (List.mem_map.mpr ⟨x, h1, rfl⟩))) h2
      · exact put _ (List.mem_append_left _ (List.mem_append_right _ (List.mem_map.mpr ⟨m, List.mem_range.mpr h1, rfl⟩))) h2
      · exact put _ (List.mem_append_right _ (List.mem_singleton.mpr rfl)) h2
      · obtain ⟨e, h3, h4⟩ := (span_take hk).mp h2
        exact ⟨e, List.mem_append_right _ (List.mem_singleton.mpr h3.symm), h4⟩
  rw [hA]
  unfold lawB
  rw [Bool.and_eq_false_iff, Bool.and_eq_false_iff, Bool.and_eq_false_iff]
  have b1 : (!(xs.any fun y => (fEnd (l.take k) (tl y)).isSome)) = false ↔ ∃ x ∈ xs, Has (l.take k) (tl x) := by
    rw [Bool.not_eq_false', List.any_eq_true]
    constructor
    · rintro ⟨x, h1, h2⟩
      exact ⟨x, h1, (fEnd_some (hx x h1)).mp h2⟩
    · rintro ⟨x, h1, h2⟩
      exact ⟨x, h1, (fEnd_some (hx x h1)).mpr h2⟩
  have b2 : hiB (l.take k) hi = false ↔ ∃ h, hi = some h ∧ Has (l.take k) (zerosL (h + 1).toNat) := by
    cases hi with
    | none => exact ⟨fun z => (nomatch z), fun ⟨_, z, _⟩ => (nomatch z)⟩
    | some h =>
      have h0 := hh h rfl
      have ih := idle_has h.toNat (l.take k) hpk 0
      rw [show zerosL 0 ++ l.take k = l.take k from rfl, show h.toNat + 1 = (h + 1).toNat by omega] at ih
      show (runL 0 (l.take k)).all (fun n => decide ((n : Int) ≤ h)) = false ↔ _
      rw [all_false]
      constructor
      · rintro ⟨n, h1, h2⟩
        have := of_decide_eq_false h2
        exact ⟨h, rfl, ih.mp ⟨n, h1, by omega⟩⟩
      · rintro ⟨h', e, h2⟩
        obtain rfl : h = h' := Option.some.inj e
        obtain ⟨n, h3, h4⟩ := ih.mpr h2
        exact ⟨n, h3, decide_eq_false (by omega)⟩
  have b3 : (((runL 0 (l.take k)).drop 1).dropLast.all fun n => decide (lo ≤ (n : Int))) = false ↔ ∃ m, m < lo.toNat ∧ Has (l.take k) (gapW m) := by
    rw [← low_first lo.toNat (l.take k) hpk 0, all_false]
    constructor
    · rintro ⟨n, h1, h2⟩
      have := of_decide_eq_false h2
      exact ⟨n, h1, by omega⟩
    · rintro ⟨n, h1, h2⟩
      exact ⟨n, h1, decide_eq_false (by omega)⟩
  have b4 : wdB (l.take k) wd = false ↔ ∃ s, wd = some s ∧ s < wid (l.take k) := by
    cases wd with
    | none => exact ⟨fun z => (nomatch z), fun ⟨_, z, _⟩ => (nomatch z)⟩
    | some s =>
      constructor
      · intro h
        have := of_decide_eq_false h
        exact ⟨s, rfl, by omega⟩
      · rintro ⟨s', e, h2⟩
        obtain rfl : s = s' := Option.some.inj e
        exact decide_eq_false (by omega)
  rw [b1, b2, b3, b4]
  constructor
  · rintro (h | h | h | h)
    · exact .inl h
    · exact .inr (.inr (.inl h))
    · exact .inr (.inl h)
    · exact .inr (.inr (.inr h))
  · rintro (h | h | h | h)
    · exact .inl h
    · exact .inr (.inr (.inl h))
    · exact .inr (.inl h)
    · exact .inr (.inr (.inr h))
/-! ### the least of a list, None of none -/
def MinOf (o : Option Int) (ns : List Int) : Prop := (o = none ∧ ns = []) ∨ ∃ m, o = some m ∧ m ∈ ns ∧ ∀ y ∈ ns, m ≤ y
def somesI (os : List (Option Nat)) : List Int := (os.filterMap id).map fun (n : Nat) => (n : Int)
def badsL (xs : List Str) (lo : Int) (hi wd : Option Int) (l : List Nat) (n : Nat) : List Int := ((List.range n).filter fun k => !(lawB xs lo hi wd (l.take k))).map fun (n : Nat) => (n : Int)
theorem mem_somes {os : List (Option Nat)} {y : Int} : y ∈ somesI os ↔ ∃ e : Nat, some e ∈ os ∧ y = (e : Int) := by
  unfold somesI
  rw [List.mem_map]
  constructor
  · rintro ⟨e, h1, h2⟩
    obtain ⟨o, h3, h4⟩ := List.mem_filterMap.mp h1
    refine ⟨e, ?_, h2.symm⟩
    have : o = some e := h4
    rw [← this]
    exact h3
  · rintro ⟨e, h1, h2⟩
    exact ⟨e, List.mem_filterMap.mpr ⟨some e, h1, rfl⟩, h2.symm⟩
theorem ends_le {xs : List Str} {lo : Int} {hi wd : Option Int} {l : List Nat} (hx : ∀ x ∈ xs, tl x ≠ []) (hh : ∀ h, hi = some h → 0 ≤ h) {e : Nat} (h : some e ∈ endsL xs lo hi wd l) : e ≤ l.length := by
  unfold endsL at h
  rcases List.mem_append.mp h with h | h
  · obtain ⟨w, hw, hf⟩ := List.mem_map.mp h
    exact fEnd_le (pieces_ne hx hh w hw) hf
  · exact span_le (List.mem_singleton.mp h).symm
theorem fault_is {xs : List Str} {lo : Int} {hi wd : Option Int} {l : List Nat} {o u : Option Int} (hp : Pure l) (hx : ∀ x ∈ xs, tl x ≠ []) (hl : 0 ≤ lo) (hh : ∀ h, hi = some h → 0 ≤ h)
    (ho : MinOf o (somesI (endsL xs lo hi wd l))) (hu : MinOf u (badsL xs lo hi wd l (l.length + 1))) : o = u := by
  have key : ∀ k, k ≤ l.length → (((k : Nat) : Int) ∈ badsL xs lo hi wd l (l.length + 1) ↔ ∃ e, some e ∈ endsL xs lo hi wd l ∧ e ≤ k) := fun k hk => by
    rw [← law_take hp hx hl hh hk]
    unfold badsL
    rw [List.mem_map]
    constructor
    · rintro ⟨j, h1, h2⟩
      have : j = k := by omega
      subst this
      have h3 := (List.mem_filter.mp h1).2
      simpa using h3
    · intro h
      exact ⟨k, List.mem_filter.mpr ⟨List.mem_range.mpr (by omega), by rw [h]; rfl⟩, rfl⟩
  have inb : ∀ y ∈ badsL xs lo hi wd l (l.length + 1), ∃ k : Nat, y = (k : Int) ∧ k ≤ l.length := fun y hy => by
    unfold badsL at hy
    obtain ⟨k, h1, h2⟩ := List.mem_map.mp hy
    have := List.mem_range.mp (List.mem_filter.mp h1).1
    exact ⟨k, h2.symm, by omega⟩
  rcases ho with ⟨rfl, h1⟩ | ⟨m, rfl, h1, h2⟩
  · rcases hu with ⟨rfl, _⟩ | ⟨n, rfl, h3, _⟩
    · rfl
    · obtain ⟨k, rfl, hk⟩ := inb n h3
      obtain ⟨e, he, _⟩ := (key k hk).mp h3
      have : (e : Int) ∈ somesI (endsL xs lo hi wd l) := mem_somes.mpr ⟨e, he, rfl⟩
      rw [h1] at this
      cases this
  · obtain ⟨e, he, rfl⟩ := mem_somes.mp h1
    have hel := ends_le hx hh he
    have hb : ((e : Nat) : Int) ∈ badsL xs lo hi wd l (l.length + 1) := (key e hel).mpr ⟨e, he, Nat.le_refl _⟩
    rcases hu with ⟨rfl, h3⟩ | ⟨n, rfl, h3, h4⟩
    · rw [h3] at hb
      cases hb
    · congr 1
      obtain ⟨k, rfl, hk⟩ := inb n h3
      obtain ⟨e2, he2, hle⟩ := (key k hk).mp h3
      have a1 := h4 _ hb
      have a2 := h2 _ (mem_somes.mpr ⟨e2, he2, rfl⟩)
      omega
theorem min_none {o : Option Int} {ns : List Int} (h : MinOf o ns) : o.isNone = decide (ns = []) := by
  rcases h with ⟨rfl, rfl⟩ | ⟨m, rfl, h1, _⟩
  · rfl
  · rw [decide_eq_false (fun z => by rw [z] at h1; cases h1)]
    rfl
end Pw

set_option Elab.async false
set_option linter.all false
set_option maxRecDepth 100000
set_option maxHeartbeats 4000000
namespace Pw
open PySem PySem.Spec PyProof.Rows L2 TL
/-- a number or None -/
def vO : Option Int → V
  | none => .non
  | some i => .int i
theorem fold_min : ∀ (ns : List Int) (n : Int), ns.foldl min n ∈ n :: ns ∧ ∀ y ∈ n :: ns, ns.foldl min n ≤ y
  | [], n => ⟨List.mem_cons_self, fun y hy => by rw [List.mem_singleton.mp hy]; exact Int.le_refl _⟩
  | k :: r, n => by
    obtain ⟨h1, h2⟩ := fold_min r (min n k)
    rw [List.foldl_cons]
    refine ⟨?_, fun y hy => ?_⟩
    · rcases List.mem_cons.mp h1 with z | z
      · rw [z]
        by_cases h : n ≤ k
        · rw [Int.min_eq_left h]
          exact List.mem_cons_self
        · rw [Int.min_eq_right (by omega)]
          exact List.mem_cons_of_mem _ List.mem_cons_self
      · exact List.mem_cons_of_mem _ (List.mem_cons_of_mem _ z)
    · have hm := h2 (min n k) List.mem_cons_self
      rcases List.mem_cons.mp hy with z | z
      · rw [z]
        exact Int.le_trans hm (Int.min_le_left _ _)
      · rcases List.mem_cons.mp z with z | z
        · rw [z]
          exact Int.le_trans hm (Int.min_le_right _ _)
        · exact h2 y (List.mem_cons_of_mem _ z)
/-- min(xs, default=None) of a list of ints -/
def rMinD (K : PySem.W.Frag) : List V → List V → Hp → VK → Prop := fun vs zs H Q => ∃ (a : Addr) (ns : List Int), vs = [V.ref a] ∧ zs = [.non] ∧ SqL K H a (ns.map V.int) ∧ ∀ o, MinOf o ns → Q (vO o) H
theorem crk_min {X : Cx} (hc : X.calm = true) (hu : X.A.units + 64 < cLine) : CallRK X (.builtin "min") ["default"] (rMinD X.K) := by
  intro pins s σ H vs zs us ws Q I r rz h
  obtain ⟨a, ns, rfl, rfl, hs, q⟩ := h
  obtain ⟨its, rv, hl, _⟩ := I.list hs
  rw [Vals.ref1 r]
  obtain ⟨u, rfl, ru⟩ := rz.one
  cases (show u = Value.none from ru)
  have h0 := PyProof.Rows.depthAll_ints ns
  refine PySem.W.min_list_default (xs := ns.map PyData.int) (as := []) (I.ok.hd hc) hl.isList (by simpa using IntsAre.reads s.heap rv.ints) ?_ (by rw [h0]; omega) (fun e h' tk hk => ?_) (fun y ys i v h' tk bs e hi rd hk => ?_)
  · exact PySem.W.alikeAll_datum ns
  · refine ⟨.non, H, I.kept hk, rfl, ?_⟩
    exact q none (.inl ⟨rfl, List.map_eq_nil_iff.mp e⟩)
  · cases ns with
    | nil => cases e
    | cons n r2 =>
      rw [List.map_cons] at e
      injection e with e1 e2
      subst e1
      subst e2
      rw [PySem.W.minD_ints] at rd
      obtain ⟨t, rfl⟩ : ∃ t, v = .int (r2.foldl min n) t := by
        cases rd
        exact ⟨_, rfl⟩
      obtain ⟨h1, h2⟩ := fold_min r2 n
      exact ⟨.int _, H, I.kept hk, ⟨_, rfl⟩, q (some _) (.inr ⟨_, rfl, h1, h2⟩)⟩
/-- text * number -/
theorem op_mulS {X : Cx} : OpR X (binaryOp .Mult) (fun x y H Q => ∃ (z : Str) (n : Nat), x = .str z ∧ y = .int (n : Nat) ∧ z.length ≤ 1 ∧ n ≤ 1000 ∧ Q (.str (Txt.mul z (n : Int))) H) := by
  intro pins s σ H x y v u Q I rx ry h
  obtain ⟨z, n, rfl, rfl, hz, hn, q⟩ := h
  obtain ⟨t, rfl⟩ := (show ∃ t, v = Value.str z t from rx)
  obtain ⟨t', rfl⟩ := (show ∃ t, u = Value.int (n : Nat) t from ry)
  refine SB.mul ⟨?_, fun h1 h2 => ?_, fun h1 h2 => ?_⟩ fun t2 k => ⟨.str _, H, I.tok k, ⟨_, rfl⟩, q⟩
  · rw [decide_eq_false (by omega), decide_eq_false (by omega)]
    rfl
  · have h3 : (1 : Int) ≤ (2 ^ 63 - 1) / (n : Int) := by
      rw [Int.le_ediv_iff_mul_le (by omega)]
      omega
    omega
  · have h3 : z.length * ((n : Int)).toNat ≤ 1000 := Nat.le_trans (Nat.mul_le_mul hz (show ((n : Int)).toNat ≤ 1000 by omega)) (by decide)
    generalize z.length * ((n : Int)).toNat = k at h3
    show decide _ = false
    refine decide_eq_false fun z => ?_
    exact absurd (Nat.lt_of_lt_of_le z h3) (by decide)
theorem tl_mul (c n : Nat) : tl (Txt.mul ⟨#[c]⟩ (n : Int)) = List.replicate n c := PyProof.Rows.mul_one_list c n
/-- for i, x in enumerate(list) -/
theorem for_enumL {K : PySem.W.Frag} {a : Addr} {xs : List V} {g : TG} {tb : TS} {D : Ends} {σ : L2.St} {H : Hp} (Pv : Nat → L2.St → Hp → Prop) (h0 : Pv 0 σ H) (hl : ∀ i σ H, i ≤ xs.length → Pv i σ H → SqL K H a xs)
    (hs : ∀ i x σ H T, xs[i]? = some x → Pv i σ H → H T = none → g (.ref T) σ (upd H T (.tup [.int (i : Nat), x])) fun σ2 H2 => tb { D with nx := Pv (i + 1), ct := Pv (i + 1), bk := D.nx } σ2 H2)
    (hd : ∀ σ H, Pv xs.length σ H → D.nx σ H) :
    ∃ W : Nat → Nat → L2.St → Hp → Prop, (∃ m, W 0 m σ H) ∧ ∀ i m σ H, W i m σ H →
      ((Ite K a).stop i H ∧ D.nx σ H) ∨ ((Ite K a).go i H ∧ ∃ N : L2.St → Hp → Prop, (∀ σ' H', N σ' H' → ∃ m', m' < m ∧ W (i + 1) m' σ' H') ∧ ∀ v H', (Ite K a).yld i H v H' → g v σ H' fun σ2 H2 => tb { D with nx := N, ct := N, bk := D.nx } σ2 H2) := by
  refine ⟨fun i m σ H => m = xs.length - i ∧ i ≤ xs.length ∧ Pv i σ H, ⟨xs.length, by simp, Nat.zero_le _, h0⟩, ?_⟩
  rintro i m σ H ⟨rfl, hi, p⟩
  have q := hl i σ H hi p
  by_cases hlt : i < xs.length
  · refine .inr ⟨⟨xs, xs[i], q, by simp [hlt]⟩, Pv (i + 1), fun σ' H' p' => ⟨xs.length - (i + 1), by omega, rfl, hlt, p'⟩, fun v H' y => ?_⟩
    obtain ⟨T, x, rfl, nT, rfl, y⟩ := y
    exact hs i x σ H T (y xs q) p nT
  · have e : i = xs.length := by omega
    subst e
    exact .inl ⟨⟨xs, q, Nat.le_refl _⟩, hd σ H p⟩
/-- [.. for c in text ..] -/
theorem lc_str {z : Str} {g : TG} {tt : TT} {te : TE} {vs : List Nat} {σ : L2.St} {H1 : Hp} {D : Addr} {Qd : Hp → Prop} (Pv : Nat → Hp → Prop) (h0 : Pv 0 (upd H1 D (.lst [])))
    (hs : ∀ i c H, z.cps[i]? = some c → Pv i H → g (.str ⟨#[c]⟩) (wipe σ vs) H fun σ2 H2 => wipe σ2 vs = wipe σ vs ∧ tt σ2 H2 fun b H3 =>
      if b = true then te σ2 H3 fun y H4 => ∃ acc, H4 D = some (.lst acc) ∧ acc.length < sizeLine ∧ Pv (i + 1) (upd H4 D (.lst (acc ++ [y]))) else Pv (i + 1) H3) (hd : ∀ H, Pv z.cps.size H → Qd H) :
    ∃ W : Nat → Nat → Hp → Prop, (∃ m, W 0 m (upd H1 D (.lst []))) ∧ ∀ i m H, W i m H →
      ((Its z).stop i H ∧ Qd H) ∨ ((Its z).go i H ∧ ∃ Nx : Hp → Prop, (∀ H', Nx H' → ∃ m', m' < m ∧ W (i + 1) m' H') ∧ ∀ x H', (Its z).yld i H x H' → g x (wipe σ vs) H' fun σ2 H2 => wipe σ2 vs = wipe σ vs ∧ tt σ2 H2 fun b H3 =>
        if b = true then te σ2 H3 fun y H4 => ∃ acc, H4 D = some (.lst acc) ∧ acc.length < sizeLine ∧ Nx (upd H4 D (.lst (acc ++ [y]))) else Nx H3) := by
  refine ⟨fun i m H => m = z.cps.size - i ∧ i ≤ z.cps.size ∧ Pv i H, ⟨z.cps.size, by simp, Nat.zero_le _, h0⟩, ?_⟩
  rintro i m H ⟨rfl, hi, p⟩
  by_cases hlt : i < z.cps.size
  · refine .inr ⟨hlt, Pv (i + 1), fun H' p' => ⟨z.cps.size - (i + 1), by omega, rfl, hlt, p'⟩, fun x H' y => ?_⟩
    obtain ⟨e, c, hc, rfl⟩ := y
    subst e
    exact hs i c _ hc p
  · have e : i = z.cps.size := by omega
    subst e
    exact .inl ⟨Nat.le_refl _, hd H p⟩
end Pw

set_option Elab.async false
set_option linter.all false
set_option maxRecDepth 100000
set_option maxHeartbeats 4000000
/-! readings that choose their rule by the state -/
namespace Pw
open PySem PySem.Spec PyProof.Rows L2
section
variable {X : Cx}
/-- a rule chosen by the state -/
theorem pe_ex {α : Sort _} {e : Expr} {t : α → TE} (h : ∀ a, PE X e (t a)) : PE X e (fun σ H Q => ∃ a, t a σ H Q) :=
  ⟨fun pins s σ H Q I ⟨a, q⟩ => (h a).run pins s σ H Q I q⟩
theorem pe_exP {p : Prop} {e : Expr} {t : p → TE} (h : ∀ a, PE X e (t a)) : PE X e (fun σ H Q => ∃ a, t a σ H Q) :=
  ⟨fun pins s σ H Q I ⟨a, q⟩ => (h a).run pins s σ H Q I q⟩
def tOr2 (t u : TE) : TE := fun σ H Q => t σ H Q ∨ u σ H Q
theorem pe_or2 {e : Expr} {t u : TE} (h1 : PE X e t) (h2 : PE X e u) : PE X e (tOr2 t u) :=
  ⟨fun pins s σ H Q I q => q.elim (h1.run pins s σ H Q I) (h2.run pins s σ H Q I)⟩
def uOr2 (t u : TS) : TS := fun D σ H => t D σ H ∨ u D σ H
theorem ps_or2 {st : Stmt} {t u : TS} (h1 : PS X st t) (h2 : PS X st u) : PS X st (uOr2 t u) :=
  ⟨fun pins s σ H D I q => q.elim (h1.run pins s σ H D I) (h2.run pins s σ H D I)⟩
theorem op_or2 {f : Value → Value → Sem Value} {r r2 : R2} (h1 : OpR X f r) (h2 : OpR X f r2) : OpR X f (fun x y H Q => r x y H Q ∨ r2 x y H Q) :=
  fun pins s σ H x y v u Q I rx ry q => q.elim (h1 pins s σ H x y v u Q I rx ry) (h2 pins s σ H x y v u Q I rx ry)
theorem cr_or2 {f : Value} {r r2 : List V → Hp → VK → Prop} (h1 : CallR X f r) (h2 : CallR X f r2) : CallR X f (fun xs H Q => r xs H Q ∨ r2 xs H Q) :=
  fun pins s σ H xs us Q I rx q => q.elim (h1 pins s σ H xs us Q I rx) (h2 pins s σ H xs us Q I rx)
end
/-- a def that lets nothing out as it is called -/
theorem calm_of {P : Program} {w : World} {K : PySem.W.Frag} {mg : Str → Option Value} {base : Heap} {k : Nat} {f : Addr} {fd : FuncData} {ps : List Str} {sp sp' : Sp} (F : FnOk P w K mg base (L2.CX P w) k f fd ps sp)
    (h : ∀ vs H Q E, sp' vs H Q E → sp vs H Q (fun _ _ _ => False)) : FnOk P w K mg base CX0 k f fd ps sp' := by
  refine ⟨fun vs H Q E q => F.len vs H Q _ (h _ _ _ _ q), fun A outer s H args us vs Q E hr he hb hv hs => ?_⟩
  refine codeAny_mono (F.run A outer s H args us vs Q (fun _ _ _ => False) hr he hb hv (h _ _ _ _ hs)) fun r s' hq => ?_
  cases r with
  | error e =>
    obtain ⟨a, B, H', cls, d, _, _, _, _, _, _, _, z⟩ := hq
    exact z.elim
  | ok v =>
    cases v with
    | ret u => exact hq
    | next => exact hq
    | brk => exact hq
    | cont => exact hq
end Pw

set_option Elab.async false
set_option linter.all false
set_option maxRecDepth 100000
set_option maxHeartbeats 4000000
/-! dicts whose keys are tuples of numbers, truths, texts and None -/
namespace Pw
open PySem PySem.Spec PySem.Calls PyProof.Rows L2
/-- a value as part of a key -/
inductive LfV : V → Leaf → Prop
  | non : LfV .non .none
  | int (i : Int) : LfV (.int i) (.num i)
  | bl (b : Bool) : LfV (.bl b) (.num (if b = true then 1 else 0))
  | str (x : Str) : LfV (.str x) (.text x)
abbrev LfVs : List V → List Leaf → Prop := Paired LfV
def lkind (P : Program) (w : World) : HeapKind P w (List Leaf) := tupleKind (leafKind P w)
theorem lf_is {P : Program} {w : World} {v : V} {k : Leaf} {u : Value} (h : LfV v k) (r : RelV v u) : (leafKind P w).is k u = true := by
  cases h with
  | non =>
    obtain rfl : u = Value.none := r
    rfl
  | int i =>
    obtain ⟨t, rfl⟩ := r
    exact decide_eq_true rfl
  | bl b =>
    obtain rfl : u = Value.bool b := r
    exact decide_eq_true rfl
  | str x =>
    obtain ⟨t, rfl⟩ := r
    show Value.isStrOf x (.str x t) = true
    simp [Value.isStrOf]
theorem lfs_are {P : Program} {w : World} : ∀ {vs : List V} {ks : List Leaf} {us : List Value}, LfVs vs ks → Vals vs us → ItemsAre (leafKind P w) ks us
  | _, _, _, .nil, .nil => .nil
  | _, _, _, .cons h t, .cons r rr => .cons (lf_is h r) (lfs_are t rr)
theorem lkey_of {P : Program} {w : World} {H : Hp} {h : Heap} {b : Addr} {vs : List V} {ks : List Leaf} (ok : HOk P w H h) (e : H b = some (.tup vs)) (l : LfVs vs ks) : (lkind P w).is h ks b := by
  obtain ⟨_, its, r, o, h1, h2, n, h3⟩ := (show ObjOk P w H h b (.tup vs) from ok b _ e)
  exact ⟨o, its.toArray, n, h1, h2, h3, by simpa using lfs_are l r⟩
/-- entries: keys, where the key's tuple stands, the value -/
abbrev KX (H : Hp) : List (List Leaf × V) → List (List Leaf × Addr × Value) → Prop := Paired fun p q => p.1 = q.1 ∧ (∃ vs, H q.2.1 = some (.tup vs) ∧ LfVs vs p.1) ∧ RelV p.2 q.2.2
def dxO (P : Program) (w : World) (a : Addr) (xs : List (List Leaf × Addr × Value)) : HO :=
  .ext fun h => ∃ o es ep, h.get? a = some o ∧ o.ExactDict ∧ o.data = .dict es ep ∧ es.toList = xs.map (entryOfKey (lkind P w))
/-- a dict at a that holds kvs -/
def DX (P : Program) (w : World) (H : Hp) (a : Addr) (kvs : List (List Leaf × V)) : Prop := ∃ xs, KX H kvs xs ∧ (xs.map (·.1)).Nodup ∧ (a == sysModules) = false ∧ H a = some (dxO P w a xs)
theorem KX.keeps {H H' : Hp} {kvs : List (List Leaf × V)} {xs : List (List Leaf × Addr × Value)} (r : KX H kvs xs) (ht : ∀ b ys, H b = some (.tup ys) → H' b = some (.tup ys)) : KX H' kvs xs :=
  Paired.mapP r fun _ _ z => ⟨z.1, let ⟨vs, e, l⟩ := z.2.1; ⟨vs, ht _ _ e, l⟩, z.2.2⟩
theorem DX.same {P : Program} {w : World} {H H' : Hp} {a : Addr} {kvs : List (List Leaf × V)} (d : DX P w H a kvs) (s : Same H H') : DX P w H' a kvs :=
  let ⟨xs, r, n, y, e⟩ := d
  ⟨xs, r.keeps fun b ys z => s _ _ z, n, y, s _ _ e⟩
theorem DX.keep {P : Program} {w : World} {H H' : Hp} {a : Addr} {kvs : List (List Leaf × V)} (d : DX P w H a kvs) (s : ∀ b o, H b = some o → (b = a ∨ ∃ ys, o = .tup ys) → H' b = some o) : DX P w H' a kvs :=
  let ⟨xs, r, n, y, e⟩ := d
  ⟨xs, r.keeps fun b ys z => s _ _ z (.inr ⟨ys, rfl⟩), n, y, s _ _ e (.inl rfl)⟩
theorem KX.val {H : Hp} {kvs : List (List Leaf × V)} {xs : List (List Leaf × Addr × Value)} (r : KX H kvs xs) (k : List Leaf) : RelO (valV kvs k) ((atKey xs k).map (·.2)) := by
  induction r with
  | nil => exact True.intro
  | @cons p q ps qs h t ih =>
    obtain ⟨h1, _, h2⟩ := h
    by_cases e : p.1 = k
    · have e' : q.1 = k := h1.symm.trans e
      rw [valV_pos e, show atKey (q :: qs) k = some q.2 by simp [atKey, List.find?_cons, e']]
      exact h2
    · have e' : ¬ q.1 = k := fun z => e (h1.trans z)
      rw [valV_neg e, show atKey (q :: qs) k = atKey qs k by simp [atKey, List.find?_cons, e']]
      exact ih
theorem KX.put {H : Hp} {kvs : List (List Leaf × V)} {xs : List (List Leaf × Addr × Value)} (r : KX H kvs xs) {k : List Leaf} {b : Addr} {vs : List V} {y : V} {u : Value} (hb : H b = some (.tup vs)) (hl : LfVs vs k) (ry : RelV y u) :
    KX H (putK kvs k y) (storedH xs k b u) := by
  have e : (kvs.any fun kv => decide (kv.1 = k)) = (atKey xs k).isSome := by
    rw [valV_any, (KX.val r k).isSome_eq, Option.isSome_map]
  unfold putK storedH
  rw [e]
  by_cases q : (atKey xs k).isSome = true
  · rw [if_pos q, if_pos q]
    clear e q
    induction r with
    | nil => exact .nil
    | @cons p q ps qs h t ih =>
      rw [List.map_cons, List.map_cons]
      refine .cons ?_ ih
      obtain ⟨h1, h2, h3⟩ := h
      unfold putAt
      by_cases e : p.1 = k
      · rw [if_pos e, if_pos (h1.symm.trans e)]
        exact ⟨h1, h2, ry⟩
      · rw [if_neg e, if_neg (fun z => e (h1.trans z))]
        exact ⟨h1, h2, h3⟩
  · rw [if_neg q, if_neg q]
    exact Paired.snoc r ⟨rfl, ⟨vs, hb, hl⟩, ry⟩
theorem dx_of {P : Program} {w : World} {H : Hp} {h : Heap} {a : Addr} {kvs : List (List Leaf × V)} (ok : HOk P w H h) (d : DX P w H a kvs) :
    (a == sysModules) = false ∧ ∃ xs, KX H kvs xs ∧ H a = some (dxO P w a xs) ∧ h.DictOfH (lkind P w) a xs := by
  obtain ⟨xs, r, n, y, e⟩ := d
  obtain ⟨⟨o, es, ep, h1, h2, h3, h4⟩, h5⟩ := (show ObjOk P w H h a (dxO P w a xs) from ok a _ e)
  refine ⟨y, xs, r, e, o, es, ep, h1, h2, h3, h4, ?_, n⟩
  clear e n h1 h2 h3 h4 h5
  induction r with
  | nil => exact fun x hx => nomatch hx
  | @cons p q ps qs hq t ih =>
    intro x hx
    rcases List.mem_cons.mp hx with z | hx
    · subst z
      obtain ⟨h5, ⟨vs, h6, h7⟩, _⟩ := hq
      exact lkey_of ok h6 (h5 ▸ h7)
    · exact ih x hx
theorem dx_ok {P : Program} {w : World} {H : Hp} {h : Heap} {a : Addr} {xs : List (List Leaf × Addr × Value)} (d : h.DictOfH (lkind P w) a xs) : ObjOk P w H h a (dxO P w a xs) := by
  obtain ⟨o, es, ep, h1, h2, h3, h4, _, _⟩ := d
  refine ⟨⟨o, es, ep, h1, h2, h3, h4⟩, ⟨o, h1⟩, fun g1 g2 z k => ?_⟩
  obtain ⟨o', es', ep', e1, r⟩ := z
  exact ⟨o', es', ep', k _ e1, r⟩
theorem dx_mut {P : Program} {w : World} {H : Hp} {a : Addr} {xs : List (List Leaf × Addr × Value)} (e : H a = some (dxO P w a xs)) : Mut (H a) := by
  rw [e]
  exact True.intro
/-- the dict's object written anew -/
theorem dx_write {X : Cx} {pins : List (Addr × Obj)} {σ : L2.St} {H : Hp} {s : Shared} {a b : Addr} {kvs : List (List Leaf × V)} {xs : List (List Leaf × Addr × Value)} {k : List Leaf} {vs : List V} {y : V} {u : Value} {h' : Heap} {t' : Nat}
    (I : Inv X pins σ H s) (hd : (a == sysModules) = false) (r : KX H kvs xs) (e : H a = some (dxO X.prog X.w a xs)) (hb : H b = some (.tup vs)) (hl : LfVs vs k) (ry : RelV y u) (dd : h'.DictOfH (lkind X.prog X.w) a (storedH xs k b u)) (hs : Heap.SameBut a s.heap h') :
    Inv X pins σ (upd H a (dxO X.prog X.w a (storedH xs k b u))) { s with heap := h', toks := t' } ∧ DX X.prog X.w (upd H a (dxO X.prog X.w a (storedH xs k b u))) a (putK kvs k y) := by
  have nd : ((storedH xs k b u).map (·.1)).Nodup := let ⟨_, _, _, _, _, _, _, _, n⟩ := dd; n
  refine ⟨d_write I (dx_mut e) hs (let ⟨o, _, _, h1, _⟩ := dd; ⟨o, h1⟩) (dx_ok dd), _, (KX.put r hb hl ry).keeps fun c ys ec => ?_, nd, hd, upd_same⟩
  rw [upd_ne (fun z => by rw [z, e] at ec; cases ec)]
  exact ec
/-- what the dict at a holds at the tuple y -/
def DXGet (P : Program) (w : World) (H : Hp) (a : Addr) (y : V) (r : Option V) : Prop := ∃ kvs k b vs, DX P w H a kvs ∧ y = .ref b ∧ H b = some (.tup vs) ∧ LfVs vs k ∧ r = valV kvs k
section
variable {X : Cx} {o i e value : Expr} {pos pos' tpos : Pos} {td ty tv : TE}
def tXGet (P : Program) (w : World) (td ty : TE) : TE := fun σ H Q => td σ H fun x H1 => ty σ H1 fun y H2 => ∃ a v, x = .ref a ∧ DXGet P w H2 a y (some v) ∧ Q v H2
theorem pe_xget (hu : X.A.units + 1 < cLine) (ho : PE X o td) (hi : PE X i ty) (hs : NoSl i) : PE X (.Subscript o i pos) (tXGet X.prog X.w td ty) := by
  refine ⟨fun pins s σ H Q I h => ?_⟩
  refine subD_of PySem.F.slot_dict_getitem.lookup hs (thn (ho.run pins s σ H _ I h) fun u s1 ⟨x, H1, I1, rx, q1⟩ => thn (hi.run pins s1 σ H1 _ I1 q1) fun iv s2 ⟨y, H2, I2, ry, a, v, ex, ⟨kvs, k, b, vs, dx, ey, eb, hl, g⟩, q2⟩ => ?_)
  subst ex ey
  obtain rfl : u = Value.ref a := rx
  obtain rfl : iv = Value.ref b := ry
  obtain ⟨hd, xs, r, _, dd⟩ := dx_of I2.hok dx
  obtain ⟨w', hw, rw'⟩ := RelO.some_of (v := v) (o := (atKey xs k).map (·.2)) (by rw [g]; exact KX.val r k)
  obtain ⟨p, hp, hp2⟩ := Option.map_eq_some_iff.mp hw
  refine ⟨dd.typeIs, wpAny_getItem_heap (tupleKind_room_in1 hu) (lkey_of I2.hok eb hl) dd hp ?_⟩
  rw [hp2]
  exact ⟨v, H2, I2.tok _, rw', q2⟩
def tXIn (P : Program) (w : World) (ty td : TE) : TE := fun σ H Q => ty σ H fun y H1 => td σ H1 fun x H2 => ∃ a r, x = .ref a ∧ DXGet P w H2 a y r ∧ Q (.bl r.isSome) H2
theorem pc_xin (hu : X.A.units + 1 < cLine) (hi : PE X i ty) (ho : PE X o td) : PC X .In i o (tXIn X.prog X.w ty td) := by
  refine ⟨fun pins s σ H Q I h => ?_⟩
  refine thn (hi.run pins s σ H _ I h) fun iv s1 ⟨y, H1, I1, ry, q1⟩ => thn (ho.run pins s1 σ H1 _ I1 q1) fun u s2 ⟨x, H2, I2, rx, a, ov, ex, ⟨kvs, k, b, vs, dx, ey, eb, hl, g⟩, q2⟩ => ?_
  subst ex ey
  obtain rfl : u = Value.ref a := rx
  obtain rfl : iv = Value.ref b := ry
  obtain ⟨hd, xs, r, _, dd⟩ := dx_of I2.hok dx
  refine wpAny_in_heap (tupleKind_room_in1 hu) (lkey_of I2.hok eb hl) hd dd ?_
  have q := (KX.val r k).isSome_eq
  rw [Option.isSome_map] at q
  rw [← q, ← g]
  exact ⟨.bl ov.isSome, H2, I2.tok _, rfl, q2⟩
def tXNotIn (P : Program) (w : World) (ty td : TE) : TE := fun σ H Q => ty σ H fun y H1 => td σ H1 fun x H2 => ∃ a r, x = .ref a ∧ DXGet P w H2 a y r ∧ Q (.bl (!r.isSome)) H2
theorem pc_xnotin (hu : X.A.units + 1 < cLine) (hi : PE X i ty) (ho : PE X o td) : PC X .NotIn i o (tXNotIn X.prog X.w ty td) := by
  refine ⟨fun pins s σ H Q I h => ?_⟩
  refine thn (hi.run pins s σ H _ I h) fun iv s1 ⟨y, H1, I1, ry, q1⟩ => thn (ho.run pins s1 σ H1 _ I1 q1) fun u s2 ⟨x, H2, I2, rx, a, ov, ex, ⟨kvs, k, b, vs, dx, ey, eb, hl, g⟩, q2⟩ => ?_
  subst ex ey
  obtain rfl : u = Value.ref a := rx
  obtain rfl : iv = Value.ref b := ry
  obtain ⟨hd, xs, r, _, dd⟩ := dx_of I2.hok dx
  refine wpAny_notIn_heap (tupleKind_room_in1 hu) (lkey_of I2.hok eb hl) hd dd ?_
  have q := (KX.val r k).isSome_eq
  rw [Option.isSome_map] at q
  rw [← q, ← g]
  exact ⟨.bl (!ov.isSome), H2, I2.tok _, rfl, q2⟩
/-- d[y] = v: the dict at a holds more, all else is as it was -/
def DXPut (P : Program) (w : World) (H : Hp) (a : Addr) (y v : V) (R : Hp → Prop) : Prop := ∃ kvs k b vs, DX P w H a kvs ∧ kvs.length < sizeLine ∧ y = .ref b ∧ H b = some (.tup vs) ∧ LfVs vs k ∧ ∀ ob, DX P w (upd H a ob) a (putK kvs k v) → R (upd H a ob)
def sXPut (P : Program) (w : World) (td ty tv : TE) : TS := fun D σ H => tv σ H fun v H1 => td σ H1 fun x H2 => ty σ H2 fun y H3 => ∃ a, x = .ref a ∧ DXPut P w H3 a y v (fun H4 => D.nx σ H4)
theorem ps_xput (hu : X.A.units + 1 < cLine) (ho : PE X o td) (hi : PE X i ty) (hv : PE X value tv) (hs : swapsWith value (some (.Subscript o i pos')) pos.line X.env = pure false) :
    PS X (.Assign [.Subscript o i pos'] value pos) (sXPut X.prog X.w td ty tv) := by
  refine ⟨fun pins s σ H D I h => ?_⟩
  refine wpAny_Assign_Subscript (thn (hv.run pins s σ H _ I h) fun rv s1 ⟨v, H1, I1, rr, q1⟩ => thn (ho.run pins s1 σ H1 _ I1 q1) fun u s2 ⟨x, H2, I2, rx, q2⟩ => thn (hi.run pins s2 σ H2 _ I2 q2) fun iv s3 ⟨y, H3, I3, ry, a, ex, ⟨kvs, k, b, vs, dx, hz, ey, eb, hl, g⟩⟩ => ?_) hs
  subst ex ey
  obtain rfl : u = Value.ref a := rx
  obtain rfl : iv = Value.ref b := ry
  obtain ⟨hd, xs, r, e, dd⟩ := dx_of I3.hok dx
  refine wpAny_setItem_heap (hsz := by rw [← Paired.length r]; exact Nat.le_of_lt hz) (tupleKind_room_in1 hu) (lkey_of I3.hok eb hl) dd fun h' dd' hs' => ?_
  obtain ⟨I4, dx'⟩ := dx_write (t' := s3.toks + (lkind X.prog X.w).draws k) I3 hd r e eb hl rr dd' hs'
  exact ⟨σ, _, I4, g _ dx'⟩
/-- {} -/
theorem pe_xnew : PE X (.Dict [] [] pos) (fun _ H Q => ∀ p ob, H p = none → DX X.prog X.w (upd H p ob) p [] → Q (.ref p) (upd H p ob)) := ⟨fun pins s σ H Q I h => by
  have hf := I.hok.fresh (Nat.le_refl s.heap.objs.size)
  have hn : (s.heap.objs.size == sysModules) = false := beq_eq_false_iff_ne.mpr (Ne.symm (Nat.ne_of_lt I.big))
  have dd : (s.heap.push { cls := .type "dict", data := .dict #[] }).DictOfH (lkind X.prog X.w) s.heap.objs.size [] := ⟨_, #[], 0, Heap.get?_push_size _ rfl, ⟨rfl, rfl, rfl⟩, rfl, rfl, (fun x hx => nomatch hx), List.nodup_nil⟩
  exact wpAny_Dict_empty ⟨.ref s.heap.objs.size, _, I.laid (a := s.heap.objs.size) (o := dxO X.prog X.w s.heap.objs.size []) (t' := s.toks) (fun _ _ q => Heap.get?_push_of_some _ q) (Nat.le_refl _) (dx_ok dd), rfl, h _ _ hf ⟨[], .nil, List.nodup_nil, hn, upd_same⟩⟩⟩
/-- len(d) -/
theorem call_xlen : CallR X (.builtin "len") (fun xs H Q => ∃ a kvs, xs = [.ref a] ∧ DX X.prog X.w H a kvs ∧ kvs.length ≤ 1000000 ∧ Q (.int (kvs.length : Nat)) H) := by
  intro pins s σ H xs us Q I r h
  obtain ⟨a, kvs, rfl, dx, hz, q⟩ := h
  obtain ⟨u, rfl, rx⟩ := vals1 r
  cases rx
  obtain ⟨hd, xs, rl, e, dd⟩ := dx_of I.hok dx
  rw [Paired.length rl] at hz q
  exact call_len_dictH hd dd (by omega) ⟨.int (xs.length : Nat), H, I.tok _, ⟨_, rfl⟩, q⟩
/-- d.setdefault(y, v) -/
def tXSetD (P : Program) (w : World) (td ty tx : TE) : TE := fun σ H Q => td σ H fun x H1 => ∃ a, x = .ref a ∧ (∃ kvs, DX P w H1 a kvs) ∧ ty σ H1 fun y H2 => tx σ H2 fun z H3 => ∃ kvs k b vs, DX P w H3 a kvs ∧ kvs.length < sizeLine ∧ y = .ref b ∧ H3 b = some (.tup vs) ∧ LfVs vs k ∧
  (∀ v, valV kvs k = some v → Q v H3) ∧ (valV kvs k = none → ∀ ob, DX P w (upd H3 a ob) a (putK kvs k z) → Q z (upd H3 a ob))
theorem pe_xsetd {f : Expr} {apos cpos : Pos} {tx : TE} (hu : X.A.units + 1 < cLine) (ho : PE X o td) (he : PE X e ty) (hf : PE X f tx) (m : M2 X o "setdefault" apos e f cpos) : PE X (.Call (.Attribute o "setdefault" apos) [e, f] [] cpos) (tXSetD X.prog X.w td ty tx) := by
  refine ⟨fun pins s σ H Q I h => ?_⟩
  refine wpAny_Call_method m.base m.few m.line PySem.F.plainAttrs_dict PySem.F.slot_dict_setdefault PySem.F.type_dict_setdefault (thn (ho.run pins s σ H _ I h) fun u s1 ⟨x, H1, I1, rx, a, ex, ⟨kv0, dx0⟩, q1⟩ => ?_)
  subst ex
  obtain rfl : u = Value.ref a := rx
  obtain ⟨_, xs0, _, _, dd0⟩ := dx_of I1.hok dx0
  refine ⟨dd0.typeIs, fun b q => ?_, ?_⟩
  · cases q
    obtain ⟨ob, _, _, h1, h2, _⟩ := dd0
    exact ⟨ob, h1, h2.2.1⟩
  rw [m.trees]
  refine Calls.callWith_builtin rfl (Calls.evalArgs_plain (Calls.spliced_cons (thn (he.run pins s1 σ H1 _ I1 q1) fun iv s2 ⟨y, H2, I2, ry, q2⟩ =>
    Calls.spliced_cons (thn (hf.run pins s2 σ H2 _ I2 q2) fun fv s3 ⟨z, H3, I3, rz, kvs, k, b, vs, dx, hz, ey, eb, hl, g1, g2⟩ => Calls.spliced_nil ?_))))
  subst ey
  obtain rfl : iv = Value.ref b := ry
  obtain ⟨hd, xs, r, e3, dd⟩ := dx_of I3.hok dx
  have rel := KX.val r k
  refine call_setdefault_heap (hsz := by rw [← Paired.length r]; exact Nat.le_of_lt hz) (tupleKind_room_in1 hu) (lkey_of I3.hok eb hl) hd dd (fun p hp => ?_) fun hn h' dd' hs => ?_
  · rw [hp] at rel
    cases hv : valV kvs k with
    | none =>
      rw [hv] at rel
      exact rel.elim
    | some v =>
      rw [hv] at rel
      exact ⟨v, H3, I3.tok _, rel, g1 v hv⟩
  · rw [hn] at rel
    have hv : valV kvs k = none := by
      cases hv : valV kvs k with
      | none => rfl
      | some v =>
        rw [hv] at rel
        exact rel.elim
    obtain ⟨I4, dx'⟩ := dx_write (t' := s3.toks + (lkind X.prog X.w).draws k) I3 hd r e3 eb hl rz dd' hs
    exact ⟨z, _, I4, rz, g2 hv _ dx'⟩
/-- {y: v} -/
def tXOne (P : Program) (w : World) (ty tv : TE) : TE := fun σ H Q => ∀ p ob, H p = none → DX P w (upd H p ob) p [] → ty σ (upd H p ob) fun y H1 => tv σ H1 fun z H2 => H2 p = some ob ∧ ∃ b vs k, y = .ref b ∧ H2 b = some (.tup vs) ∧ LfVs vs k ∧ ∀ ob2, DX P w (upd H2 p ob2) p [(k, z)] → Q (.ref p) (upd H2 p ob2)
theorem pe_xone (hu : X.A.units < cLine) {k v : Expr} (hk : PE X k ty) (hv : PE X v tv) : PE X (.Dict [some k] [v] pos) (tXOne X.prog X.w ty tv) := by
  refine ⟨fun pins s σ H Q I h => ?_⟩
  have hf := I.hok.fresh (Nat.le_refl s.heap.objs.size)
  have hn : (s.heap.objs.size == sysModules) = false := beq_eq_false_iff_ne.mpr (Ne.symm (Nat.ne_of_lt I.big))
  have d0 : (s.heap.push { cls := .type "dict", data := .dict #[] }).DictOfH (lkind X.prog X.w) s.heap.objs.size [] := ⟨_, #[], 0, Heap.get?_push_size _ rfl, ⟨rfl, rfl, rfl⟩, rfl, rfl, (fun x hx => nomatch hx), List.nodup_nil⟩
  have I0 := I.laid (a := s.heap.objs.size) (o := dxO X.prog X.w s.heap.objs.size []) (t' := s.toks) (fun _ _ q => Heap.get?_push_of_some _ q) (Nat.le_refl _) (dx_ok d0)
  have q0 := h _ _ hf ⟨[], .nil, List.nodup_nil, hn, upd_same⟩
  rw [arm_eval_Dict, zip_pairTrees [some k] [v] X.env pos rfl rfl, dictDisplay_pairs (pairTrees [some k] [v] X.env pos) (by simp [pairTrees]) (by simp [pairTrees])]
  refine wpAny_bind (wpAny_standAt (wpAny_bind (wpAny_subDictH (knd := lkind X.prog X.w) (Q := fun d s' => wpAny (model X.prog X.w) X.A (pure (Value.ref d)) (EP X pins σ Q) X.xe s') hu (by simp [pairTrees]) ?_)))
  refine pairTrees_cons_walk (thn (hk.run pins _ σ _ _ I0 q0) fun u s1 ⟨y, H1, I1, ry, q1⟩ => thn (hv.run pins s1 σ H1 _ I1 q1) fun vv s2 ⟨z, H2, I2, rz, ep, b, vs, ks, ey, eb, hl, q2⟩ => pairTrees_nil_walk ?_)
  subst ey
  obtain rfl : u = Value.ref b := ry
  obtain ⟨⟨o, es, ep', h1, h2, h3, h4⟩, _⟩ := (show ObjOk X.prog X.w H2 s2.heap s.heap.objs.size (dxO X.prog X.w s.heap.objs.size []) from I2.hok _ _ ep)
  have d2 : s2.heap.DictOfH (lkind X.prog X.w) s.heap.objs.size [] := ⟨o, es, ep', h1, h2, h3, h4, (fun x hx => nomatch hx), List.nodup_nil⟩
  refine ⟨[(ks, b, vv)], ⟨rfl, rfl, lkey_of I2.hok eb hl, trivial⟩, d2, fun h' tk dd hs => ?_⟩
  have nd1 : ([(ks, b, vv)].map (fun x : List Leaf × Addr × Value => x.1)).Nodup := by simp
  rw [storedAllH_nil_of_nodup [(ks, b, vv)] nd1] at dd
  have I3 : Inv X pins σ (upd H2 s.heap.objs.size (dxO X.prog X.w s.heap.objs.size [(ks, b, vv)])) { s2 with heap := h', toks := tk } := d_write I2 (dx_mut ep) hs (let ⟨o, _, _, h1, _⟩ := dd; ⟨o, h1⟩) (dx_ok dd)
  have nb : b ≠ s.heap.objs.size := fun z => by rw [z, ep] at eb; cases eb
  refine wpAny_pure ⟨.ref s.heap.objs.size, _, I3, rfl, q2 _ ⟨_, .cons ⟨rfl, ⟨vs, ?_, hl⟩, rz⟩ .nil, nd1, hn, upd_same⟩⟩
  show upd H2 s.heap.objs.size _ b = _
  rw [upd_ne nb]
  exact eb
end
end Pw

set_option Elab.async false
set_option linter.all false
/-! graphs of pairs: going along them, the order of first reach, when two are one -/
namespace Pw
abbrev Pr := Option Nat × Option Nat
abbrev Gr := List Pr
def pick (p : Pr) (c : Bool) : Option Nat := if c = true then p.2 else p.1
def goG (W : Gr) (k : Nat) (c : Bool) : Option Nat := (W[k]?).bind fun p => pick p c
def wlk (W : Gr) : Nat → List Bool → Option Nat
  | k, [] => some k
  | k, c :: r => (goG W k c).bind fun j => wlk W j r
theorem wlk_app (W : Gr) : ∀ (x y : List Bool) (k : Nat), wlk W k (x ++ y) = (wlk W k x).bind fun j => wlk W j y
  | [], y, k => rfl
  | c :: r, y, k => by
    show (goG W k c).bind (fun j => wlk W j (r ++ y)) = ((goG W k c).bind fun j => wlk W j r).bind fun j => wlk W j y
    cases goG W k c with
    | none => rfl
    | some j => exact wlk_app W r y j
theorem wlk_snoc (W : Gr) (x : List Bool) (c : Bool) (k : Nat) : wlk W k (x ++ [c]) = (wlk W k x).bind fun j => goG W j c := by
  rw [wlk_app]
  cases wlk W k x with
  | none => rfl
  | some j =>
    show (goG W j c).bind (fun i => some i) = goG W j c
    cases goG W j c <;> rfl
theorem go_lt {W : Gr} {k j : Nat} {c : Bool} (h : goG W k c = some j) : k < W.length := by
  unfold goG at h
  cases e : W[k]? with
  | none =>
    rw [e] at h
    cases h
  | some p => exact (List.getElem?_eq_some_iff.mp e).1
/-- all goals are stands -/
def Closed (W : Gr) : Prop := ∀ k c j, goG W k c = some j → j < W.length
theorem wlk_lt {W : Gr} (hc : Closed W) : ∀ (x : List Bool) (k j : Nat), k < W.length → wlk W k x = some j → j < W.length
  | [], k, j, hk, h => by
    obtain rfl := Option.some.inj h
    exact hk
  | c :: r, k, j, hk, h => by
    have h : (goG W k c).bind (fun i => wlk W i r) = some j := h
    cases e : goG W k c with
    | none =>
      rw [e] at h
      cases h
    | some i =>
      rw [e] at h
      exact wlk_lt hc r i j (hc k c i e) h
/-- edges by their numbers: the 0 of stand k is 2 k, its 1 is 2 k + 1 -/
def goE (W : Gr) (e : Nat) : Option Nat := goG W (e / 2) (e % 2 == 1)
def edge (k : Nat) (c : Bool) : Nat := 2 * k + (if c = true then 1 else 0)
theorem edge_div (k : Nat) (c : Bool) : edge k c / 2 = k := by
  unfold edge
  cases c
  · show (2 * k + 0) / 2 = k
    omega
  · show (2 * k + 1) / 2 = k
    omega
theorem edge_mod (k : Nat) (c : Bool) : (edge k c % 2 == 1) = c := by
  unfold edge
  cases c
  · show ((2 * k + 0) % 2 == 1) = false
    rw [show (2 * k + 0) % 2 = 0 by omega]
    rfl
  · show ((2 * k + 1) % 2 == 1) = true
    rw [show (2 * k + 1) % 2 = 1 by omega]
    rfl
theorem edge_of (e : Nat) : edge (e / 2) (e % 2 == 1) = e := by
  unfold edge
  by_cases h : e % 2 = 1
  · rw [h]
    show 2 * (e / 2) + 1 = e
    omega
  · have h0 : e % 2 = 0 := by omega
    rw [h0]
    show 2 * (e / 2) + 0 = e
    omega
theorem goE_edge (W : Gr) (k : Nat) (c : Bool) : goE W (edge k c) = goG W k c := by
  unfold goE
  rw [edge_div, edge_mod]
theorem edge_lt {i k : Nat} {c : Bool} (h : i < k) : edge i c < 2 * k := by
  unfold edge
  cases c
  · show 2 * i + 0 < 2 * k
    omega
  · show 2 * i + 1 < 2 * k
    omega
/-- stands are numbered as they are first reached -/
structure Ord (W : Gr) (par : Nat → Nat) : Prop where
  to : ∀ j, 0 < j → j < W.length → goE W (par j) = some j ∧ par j < 2 * j
  least : ∀ j e, 0 < j → j < W.length → goE W e = some j → par j ≤ e
  inc : ∀ i j, 0 < i → i < j → j < W.length → par i < par j
theorem Ord.reach {W : Gr} {par : Nat → Nat} (h : Ord W par) : ∀ j, j < W.length → ∃ x, wlk W 0 x = some j := by
  intro j
  induction j using Nat.strongRecOn with
  | _ j ih =>
    intro hj
    by_cases h0 : j = 0
    · subst h0
      exact ⟨[], rfl⟩
    · obtain ⟨e1, e2⟩ := h.to j (by omega) hj
      obtain ⟨x, hx⟩ := ih (par j / 2) (by omega) (by omega)
      refine ⟨x ++ [par j % 2 == 1], ?_⟩
      rw [wlk_snoc, hx]
      exact e1
/-- just the same rows can be gone from unlike stands nowhere -/
def Minim (W : Gr) : Prop := ∀ i j, i < W.length → j < W.length → (∀ x, (wlk W i x).isSome = (wlk W j x).isSome) → i = j
/-- what is one by a map is one -/
theorem ord_map {W W' : Gr} {par par' : Nat → Nat} (o : Ord W par) (o' : Ord W' par') (f : Nat → Nat) (f0 : f 0 = 0) (lt : ∀ k, k < W.length → f k < W'.length) (inj : ∀ i j, i < W.length → j < W.length → f i = f j → i = j)
    (sur : ∀ j, j < W'.length → ∃ i, i < W.length ∧ f i = j) (cl : Closed W) (hom : ∀ k c, k < W.length → goG W' (f k) c = (goG W k c).map f) : ∀ k, k < W.length → f k = k := by
  intro k
  induction k using Nat.strongRecOn with
  | _ k ih =>
    intro hk
    by_cases h0 : k = 0
    · rw [h0]
      exact f0
    · obtain ⟨e1, e2⟩ := o.to k (by omega) hk
      have hi : par k / 2 < k := by omega
      have fi : f (par k / 2) = par k / 2 := ih _ hi (by omega)
      have g1 : goE W' (par k) = some (f k) := by
        have := hom (par k / 2) (par k % 2 == 1) (by omega)
        rw [fi] at this
        unfold goE at e1 ⊢
        rw [this, e1]
        rfl
      have ge : k ≤ f k := by
        apply Decidable.byContradiction
        intro hn
        have hlt : f k < k := by omega
        have := ih (f k) hlt (by omega)
        have := inj (f k) k (by omega) hk this
        omega
      apply Decidable.byContradiction
      intro hne
      have gt : k < f k := by omega
      have hfk := lt k hk
      obtain ⟨m, hm, em⟩ := sur k (by omega)
      have mk : k < m := by
        apply Decidable.byContradiction
        intro hn
        by_cases hme : m = k
        · rw [hme] at em
          omega
        · have := ih m (by omega) hm
          omega
      obtain ⟨p1, p2⟩ := o'.to k (by omega) (by omega)
      have q1 : par' k < par' (f k) := o'.inc k (f k) (by omega) gt hfk
      have q2 : par' (f k) ≤ par k := o'.least (f k) (par k) (by omega) hfk g1
      have fi' : f (par' k / 2) = par' k / 2 := ih _ (by omega) (by omega)
      have g2 := hom (par' k / 2) (par' k % 2 == 1) (by omega)
      rw [fi'] at g2
      have p1' : goG W' (par' k / 2) (par' k % 2 == 1) = some k := p1
      rw [p1'] at g2
      cases eg : goG W (par' k / 2) (par' k % 2 == 1) with
      | none =>
        rw [eg] at g2
        cases g2
      | some m' =>
        rw [eg] at g2
        have em' : k = f m' := Option.some.inj g2
        have hm' := cl _ _ _ eg
        have : m = m' := inj m m' hm hm' (em.trans em')
        subst this
        have q3 : par m ≤ par' k := o.least m (par' k) (by omega) hm eg
        have q4 : par k < par m := o.inc k m (by omega) mk hm
        omega
/-- two graphs of the same rows, each without like stands and in the order of first reach, are one -/
theorem web_one {W W' : Gr} {par par' : Nat → Nat} (o : Ord W par) (o' : Ord W' par') (c : Closed W) (c' : Closed W') (m : Minim W) (m' : Minim W') (n0 : 0 < W.length) (n0' : 0 < W'.length)
    (lang : ∀ x, (wlk W 0 x).isSome = (wlk W' 0 x).isSome) : W = W' := by
  have fn : ∀ x y k a b, wlk W 0 x = some k → wlk W 0 y = some k → wlk W' 0 x = some a → wlk W' 0 y = some b → a = b := by
    intro x y k a b hx hy ha hb
    refine m' a b (wlk_lt c' x 0 a n0' ha) (wlk_lt c' y 0 b n0' hb) fun z => ?_
    have e1 := lang (x ++ z)
    have e2 := lang (y ++ z)
    rw [wlk_app, wlk_app, hx, ha] at e1
    rw [wlk_app, wlk_app, hy, hb] at e2
    exact e1.symm.trans e2
  have fn' : ∀ x y k a b, wlk W' 0 x = some k → wlk W' 0 y = some k → wlk W 0 x = some a → wlk W 0 y = some b → a = b := by
    intro x y k a b hx hy ha hb
    refine m a b (wlk_lt c x 0 a n0 ha) (wlk_lt c y 0 b n0 hb) fun z => ?_
    have e1 := lang (x ++ z)
    have e2 := lang (y ++ z)
    rw [wlk_app, wlk_app, hx, ha] at e1
    rw [wlk_app, wlk_app, hy, hb] at e2
    exact e1.trans e2.symm
  have both : ∀ k, k < W.length → ∃ j x, wlk W 0 x = some k ∧ wlk W' 0 x = some j := by
    intro k hk
    obtain ⟨x, hx⟩ := o.reach k hk
    have := lang x
    rw [hx] at this
    obtain ⟨j, hj⟩ := Option.isSome_iff_exists.mp this.symm
    exact ⟨j, x, hx, hj⟩
  have both' : ∀ k, k < W'.length → ∃ j x, wlk W' 0 x = some k ∧ wlk W 0 x = some j := by
    intro k hk
    obtain ⟨x, hx⟩ := o'.reach k hk
    have := lang x
    rw [hx] at this
    obtain ⟨j, hj⟩ := Option.isSome_iff_exists.mp this
    exact ⟨j, x, hx, hj⟩
  let f : Nat → Nat := fun k => if h : k < W.length then Classical.choose (both k h) else 0
  have hf : ∀ k, k < W.length → ∃ x, wlk W 0 x = some k ∧ wlk W' 0 x = some (f k) := by
    intro k hk
    have : f k = Classical.choose (both k hk) := dif_pos hk
    rw [this]
    exact Classical.choose_spec (both k hk)
  have fix : ∀ k x j, k < W.length → wlk W 0 x = some k → wlk W' 0 x = some j → f k = j := by
    intro k x j hk hx hj
    obtain ⟨y, hy, hy'⟩ := hf k hk
    exact fn y x k (f k) j hy hx hy' hj
  have id : ∀ k, k < W.length → f k = k := by
    refine ord_map o o' f (fix 0 [] 0 n0 rfl rfl) (fun k hk => ?_) (fun i j hi hj e => ?_) (fun j hj => ?_) c (fun k b hk => ?_)
    · obtain ⟨x, _, hx⟩ := hf k hk
      exact wlk_lt c' x 0 _ n0' hx
    · obtain ⟨x, hx, hx'⟩ := hf i hi
      obtain ⟨y, hy, hy'⟩ := hf j hj
      rw [e] at hx'
      exact fn' x y (f j) i j hx' hy' hx hy
    · obtain ⟨i, x, hx', hx⟩ := both' j hj
      exact ⟨i, wlk_lt c x 0 i n0 hx, fix i x j (wlk_lt c x 0 i n0 hx) hx hx'⟩
    · obtain ⟨x, hx, hx'⟩ := hf k hk
      have e := lang (x ++ [b])
      have s1 := wlk_snoc W x b 0
      have s2 := wlk_snoc W' x b 0
      rw [hx] at s1
      rw [hx'] at s2
      have s1 : wlk W 0 (x ++ [b]) = goG W k b := s1
      have s2 : wlk W' 0 (x ++ [b]) = goG W' (f k) b := s2
      rw [s1, s2] at e
      cases e1 : goG W k b with
      | none =>
        rw [e1] at e
        cases e2 : goG W' (f k) b with
        | none => rfl
        | some j =>
          rw [e2] at e
          cases e
      | some i =>
        rw [e1] at e
        obtain ⟨j, e2⟩ := Option.isSome_iff_exists.mp e.symm
        rw [e2]
        have hi := c k b i e1
        rw [← fix i (x ++ [b]) j hi (s1.trans e1) (s2.trans e2)]
        rfl
  have len : W.length = W'.length := by
    apply Nat.le_antisymm
    · apply Decidable.byContradiction
      intro hn
      have h1 : W'.length < W.length := by omega
      have := id W'.length h1
      obtain ⟨x, _, hx⟩ := hf W'.length h1
      have := wlk_lt c' x 0 _ n0' hx
      omega
    · apply Decidable.byContradiction
      intro hn
      have h1 : W.length < W'.length := by omega
      obtain ⟨i, x, hx', hx⟩ := both' W.length h1
      have hi := wlk_lt c x 0 i n0 hx
      have := fix i x W.length hi hx hx'
      rw [id i hi] at this
      omega
  refine List.ext_getElem len fun k h1 h2 => ?_
  have hg : ∀ b, goG W' k b = goG W k b := by
    intro b
    obtain ⟨x, hx, hx'⟩ := hf k h1
    have e := lang (x ++ [b])
    have s1 : wlk W 0 (x ++ [b]) = goG W k b := by
      rw [wlk_snoc, hx]
      rfl
    have s2 : wlk W' 0 (x ++ [b]) = goG W' k b := by
      rw [wlk_snoc, hx', id k h1]
      rfl
    rw [s1, s2] at e
    cases e1 : goG W k b with
    | none =>
      rw [e1] at e
      cases e2 : goG W' k b with
      | none => rfl
      | some j =>
        rw [e2] at e
        cases e
    | some i =>
      rw [e1] at e
      obtain ⟨j, e2⟩ := Option.isSome_iff_exists.mp e.symm
      rw [e2]
      have hi := c k b i e1
      have := fix i (x ++ [b]) j hi (s1.trans e1) (s2.trans e2)
      rw [id i hi] at this
      rw [this]
  have g0 := hg false
  have g1 := hg true
  unfold goG at g0 g1
  rw [List.getElem?_eq_getElem h1, List.getElem?_eq_getElem h2] at g0 g1
  exact Prod.ext g0.symm g1.symm
end Pw

set_option Elab.async false
set_option linter.all false
/-! what goes on for ever, and what is told apart by no row -/
namespace Pw
/-- n signs more can be gone -/
def alv (W : Gr) : Nat → Nat → Bool
  | 0, _ => true
  | n + 1, k => (match goG W k false with | none => false | some j => alv W n j) || (match goG W k true with | none => false | some j => alv W n j)
theorem alv_succ {W : Gr} {n k : Nat} : alv W (n + 1) k = true ↔ ∃ c j, goG W k c = some j ∧ alv W n j = true := by
  show ((match goG W k false with | none => false | some j => alv W n j) || (match goG W k true with | none => false | some j => alv W n j)) = true ↔ _
  rw [Bool.or_eq_true]
  constructor
  · rintro (h | h)
    · cases e : goG W k false with
      | none =>
        rw [e] at h
        cases h
      | some j =>
        rw [e] at h
        exact ⟨false, j, e, h⟩
    · cases e : goG W k true with
      | none =>
        rw [e] at h
        cases h
      | some j =>
        rw [e] at h
        exact ⟨true, j, e, h⟩
  · rintro ⟨c, j, e, h⟩
    cases c with
    | false =>
      left
      rw [e]
      exact h
    | true =>
      right
      rw [e]
      exact h
theorem alv_row {W : Gr} : ∀ {n k : Nat}, alv W n k = true ↔ ∃ x : List Bool, x.length = n ∧ (wlk W k x).isSome = true
  | 0, k => ⟨fun _ => ⟨[], rfl, rfl⟩, fun _ => rfl⟩
  | n + 1, k => by
    rw [alv_succ]
    constructor
    · rintro ⟨c, j, e, h⟩
      obtain ⟨x, hl, hx⟩ := alv_row.mp h
      refine ⟨c :: x, by rw [List.length_cons, hl], ?_⟩
      show ((goG W k c).bind fun j => wlk W j x).isSome = true
      rw [e]
      exact hx
    · rintro ⟨x, hl, hx⟩
      cases x with
      | nil => cases hl
      | cons c r =>
        have hx : ((goG W k c).bind fun j => wlk W j r).isSome = true := hx
        cases e : goG W k c with
        | none =>
          rw [e] at hx
          cases hx
        | some j =>
          rw [e] at hx
          exact ⟨c, j, e, alv_row.mpr ⟨r, Nat.succ.inj hl, hx⟩⟩
theorem alv_mono {W : Gr} : ∀ {n k : Nat}, alv W (n + 1) k = true → alv W n k = true
  | 0, _, _ => rfl
  | n + 1, k, h => by
    obtain ⟨c, j, e, h1⟩ := alv_succ.mp h
    exact alv_succ.mpr ⟨c, j, e, alv_mono h1⟩
theorem alv_le {W : Gr} {n m k : Nat} (h : n ≤ m) (a : alv W m k = true) : alv W n k = true := by
  induction m with
  | zero =>
    rw [show n = 0 by omega]
    rfl
  | succ m ih =>
    by_cases e : n = m + 1
    · rw [e]
      exact a
    · exact ih (by omega) (alv_mono a)
/-- it goes on for ever -/
def Lives (W : Gr) (k : Nat) : Prop := ∀ n, alv W n k = true
/-- once a round parts nothing, none does -/
theorem alv_fix {W : Gr} {N n : Nat} (hc : Closed W) (hN : W.length = N) (h : ∀ k, k < N → alv W n k = true → alv W (n + 1) k = true) : ∀ m k, k < N → alv W n k = true → alv W (n + m) k = true := by
  intro m
  induction m with
  | zero => exact fun k _ a => a
  | succ m ih =>
    intro k hk a
    obtain ⟨c, j, e, h1⟩ := alv_succ.mp (h k hk a)
    exact alv_succ.mpr ⟨c, j, e, ih j (by rw [← hN]; exact hc k c j e) h1⟩
theorem lives_of_fix {W : Gr} {N n : Nat} (hc : Closed W) (hN : W.length = N) (h : ∀ k, k < N → alv W n k = true → alv W (n + 1) k = true) {k : Nat} (hk : k < N) : alv W n k = true ↔ Lives W k := by
  constructor
  · intro a m
    by_cases hm : m ≤ n
    · exact alv_le hm a
    · have := alv_fix hc hN h (m - n) k hk a
      rw [show n + (m - n) = m by omega] at this
      exact this
  · intro l
    exact l n
/-- how many of the first N are so -/
def cntB (p : Nat → Bool) (N : Nat) : Nat := ((List.range N).filter p).length
theorem cntB_le (p : Nat → Bool) (N : Nat) : cntB p N ≤ N := by
  unfold cntB
  exact Nat.le_trans (List.length_filter_le _ _) (by rw [List.length_range]; exact Nat.le_refl _)
theorem cntB_succ (p : Nat → Bool) (N : Nat) : cntB p (N + 1) = cntB p N + (if p N = true then 1 else 0) := by
  unfold cntB
  rw [List.range_succ, List.filter_append, List.length_append]
  congr 1
  by_cases h : p N = true
  · rw [if_pos h, List.filter_cons, if_pos h]
    rfl
  · rw [if_neg h, List.filter_cons, if_neg h]
    rfl
theorem cntB_mono {p q : Nat → Bool} : ∀ {N : Nat}, (∀ k, k < N → p k = true → q k = true) → cntB p N ≤ cntB q N
  | 0, _ => Nat.le_refl _
  | N + 1, h => by
    have ih := cntB_mono (N := N) fun k hk => h k (by omega)
    rw [cntB_succ, cntB_succ]
    by_cases hp : p N = true
    · rw [if_pos hp, if_pos (h N (Nat.lt_succ_self N) hp)]
      omega
    · rw [if_neg hp]
      omega
theorem cntB_eq {p q : Nat → Bool} : ∀ {N : Nat}, (∀ k, k < N → p k = true → q k = true) → cntB p N = cntB q N → ∀ k, k < N → q k = true → p k = true
  | 0, _, _, k, hk, _ => absurd hk (Nat.not_lt_zero _)
  | N + 1, h, e, k, hk, hq => by
    have hm := cntB_mono (N := N) fun k hk => h k (Nat.lt_succ_of_lt hk)
    rw [cntB_succ, cntB_succ] at e
    by_cases hp : p N = true
    · rw [if_pos hp, if_pos (h N (Nat.lt_succ_self N) hp)] at e
      by_cases hkN : k = N
      · rw [hkN]
        exact hp
      · exact cntB_eq (N := N) (fun k hk => h k (by omega)) (by omega) k (by omega) hq
    · rw [if_neg hp] at e
      by_cases hqN : q N = true
      · rw [if_pos hqN] at e
        omega
      · by_cases hkN : k = N
        · rw [hkN] at hq
          exact absurd hq hqN
        · rw [if_neg hqN] at e
          exact cntB_eq (N := N) (fun k hk => h k (by omega)) (by omega) k (by omega) hq
/-- behind as many rounds as places nothing more falls -/
theorem alv_end {W : Gr} (hc : Closed W) (k : Nat) (hk : k < W.length) : alv W W.length k = true ↔ Lives W k := by
  have grow : ∀ n, (∀ i, i < n → ¬ ∀ k, k < W.length → alv W i k = true → alv W (i + 1) k = true) → cntB (alv W n) W.length + n ≤ W.length := by
    intro n
    induction n with
    | zero => exact fun _ => cntB_le _ _
    | succ n ih =>
      intro h
      have h1 := ih fun i hi => h i (by omega)
      have hm : cntB (alv W (n + 1)) W.length ≤ cntB (alv W n) W.length := cntB_mono fun k _ a => alv_mono a
      have hne : cntB (alv W (n + 1)) W.length ≠ cntB (alv W n) W.length := fun e => h n (Nat.lt_succ_self n) (cntB_eq (fun k _ a => alv_mono a) e)
      omega
  by_cases hx : ∃ i, i < W.length + 1 ∧ ∀ k, k < W.length → alv W i k = true → alv W (i + 1) k = true
  · obtain ⟨i, hi, hfix⟩ := hx
    have h1 := lives_of_fix hc rfl hfix hk
    constructor
    · intro a
      exact h1.mp (alv_le (by omega) a)
    · intro l
      exact l _
  · have := grow (W.length + 1) (fun i hi h => hx ⟨i, hi, h⟩)
    omega
theorem lives_go {W : Gr} (hc : Closed W) {k : Nat} (hk : k < W.length) (h : Lives W k) : ∃ c j, goG W k c = some j ∧ Lives W j := by
  obtain ⟨c, j, e, a⟩ := alv_succ.mp (h (W.length + 1))
  exact ⟨c, j, e, (alv_end hc j (hc k c j e)).mp a⟩
theorem lives_back {W : Gr} {k j : Nat} {c : Bool} (e : goG W k c = some j) (h : Lives W j) : Lives W k := fun n => by
  cases n with
  | zero => rfl
  | succ n => exact alv_succ.mpr ⟨c, j, e, h n⟩
/-! ### cutting -/
def dead : Pr := (none, none)
def cutO (W : Gr) (o : Option Nat) : Option Nat := o.bind fun g => if W[g]? = some dead then none else some g
def cutG (W : Gr) : Gr := W.map fun p => (cutO W p.1, cutO W p.2)
def cutN (W : Gr) : Nat → Gr
  | 0 => W
  | n + 1 => cutG (cutN W n)
theorem cut_len (W : Gr) : (cutG W).length = W.length := List.length_map ..
theorem cutN_len (W : Gr) : ∀ n, (cutN W n).length = W.length
  | 0 => rfl
  | n + 1 => (cut_len _).trans (cutN_len W n)
theorem go_cut (W : Gr) (k : Nat) (c : Bool) : goG (cutG W) k c = cutO W (goG W k c) := by
  unfold goG cutG
  rw [List.getElem?_map]
  cases W[k]? with
  | none => rfl
  | some p =>
    show pick (cutO W p.1, cutO W p.2) c = cutO W (pick p c)
    unfold pick
    cases c <;> rfl
theorem dead_iff {W : Gr} {g : Nat} (hg : g < W.length) : W[g]? = some dead ↔ ∀ c, goG W g c = none := by
  rw [List.getElem?_eq_getElem hg]
  constructor
  · intro h c
    unfold goG
    rw [List.getElem?_eq_getElem hg, h]
    cases c <;> rfl
  · intro h
    have h0 := h false
    have h1 := h true
    unfold goG at h0 h1
    rw [List.getElem?_eq_getElem hg] at h0 h1
    congr 1
    exact Prod.ext h0 h1
theorem go_cutN {W : Gr} (hc : Closed W) : ∀ (n k : Nat) (c : Bool), goG (cutN W n) k c = (goG W k c).bind fun g => if alv W n g = true then some g else none
  | 0, k, c => by
    show goG W k c = (goG W k c).bind fun g => some g
    cases goG W k c <;> rfl
  | n + 1, k, c => by
    show goG (cutG (cutN W n)) k c = _
    rw [go_cut, go_cutN hc n k c]
    cases e : goG W k c with
    | none => rfl
    | some g =>
      have hg := hc k c g e
      show cutO (cutN W n) (if alv W n g = true then some g else none) = if alv W (n + 1) g = true then some g else none
      by_cases a : alv W n g = true
      · rw [if_pos a]
        show (if (cutN W n)[g]? = some dead then none else some g) = _
        have hd : (cutN W n)[g]? = some dead ↔ ¬ alv W (n + 1) g = true := by
          rw [dead_iff (by rw [cutN_len]; exact hg), alv_succ]
          constructor
          · rintro h ⟨c', j, e', a'⟩
            have := h c'
            rw [go_cutN hc n g c', e'] at this
            have this : (if alv W n j = true then some j else none) = none := this
            rw [if_pos a'] at this
            cases this
          · intro h c'
            rw [go_cutN hc n g c']
            cases e' : goG W g c' with
            | none => rfl
            | some j =>
              show (if alv W n j = true then some j else none) = none
              rw [if_neg (fun a' => h ⟨c', j, e', a'⟩)]
        by_cases a1 : alv W (n + 1) g = true
        · rw [if_pos a1, if_neg (fun z => hd.mp z a1)]
        · rw [if_neg a1, if_pos (hd.mpr a1)]
      · rw [if_neg a, if_neg (fun a1 => a (alv_mono a1))]
        rfl
/-- where a cut parts nothing: just what goes on for ever is left -/
theorem cut_end {W : Gr} (hc : Closed W) {n : Nat} (h : cutG (cutN W n) = cutN W n) : ∀ k c g, goG (cutN W n) k c = some g ↔ goG W k c = some g ∧ Lives W g := by
  have st : ∀ m, cutN W (n + m) = cutN W n := by
    intro m
    induction m with
    | zero => rfl
    | succ m ih =>
      show cutG (cutN W (n + m)) = _
      rw [ih, h]
  intro k c g
  constructor
  · intro e
    have e0 := e
    rw [go_cutN hc] at e0
    cases eg : goG W k c with
    | none =>
      rw [eg] at e0
      cases e0
    | some g' =>
      rw [eg] at e0
      have e0 : (if alv W n g' = true then some g' else none) = some g := e0
      by_cases a : alv W n g' = true
      · rw [if_pos a] at e0
        obtain rfl : g' = g := Option.some.inj e0
        refine ⟨rfl, fun m => ?_⟩
        have e1 := e
        rw [← st m, go_cutN hc, eg] at e1
        have e1 : (if alv W (n + m) g' = true then some g' else none) = some g' := e1
        by_cases a1 : alv W (n + m) g' = true
        · exact alv_le (by omega) a1
        · rw [if_neg a1] at e1
          cases e1
      · rw [if_neg a] at e0
        cases e0
  · rintro ⟨e, l⟩
    rw [go_cutN hc, e]
    show (if alv W n g = true then some g else none) = some g
    rw [if_pos (l n)]
/-- how many goals there are -/
def sz (o : Option Nat) : Nat := if o.isSome = true then 1 else 0
theorem sz_le (o : Option Nat) : sz o ≤ 1 := by
  cases o with
  | none => exact Nat.zero_le _
  | some g => exact Nat.le_refl _
def goals (W : Gr) : Nat := (W.map fun p => sz p.1 + sz p.2).sum
theorem goals_cons (p : Pr) (r : Gr) : goals (p :: r) = sz p.1 + sz p.2 + goals r := by
  unfold goals
  rw [List.map_cons, List.sum_cons]
theorem goals_le : ∀ (W : Gr), goals W ≤ 2 * W.length
  | [] => Nat.zero_le _
  | p :: r => by
    have := goals_le r
    have h1 := sz_le p.1
    have h2 := sz_le p.2
    rw [goals_cons, List.length_cons]
    omega
theorem cutO_some {W : Gr} {o : Option Nat} (h : (cutO W o).isSome = true) : cutO W o = o := by
  cases o with
  | none => rfl
  | some g =>
    have h : (if W[g]? = some dead then none else some g).isSome = true := h
    show (if W[g]? = some dead then none else some g) = some g
    by_cases d : W[g]? = some dead
    · rw [if_pos d] at h
      cases h
    · rw [if_neg d]
theorem goals_cut (W : Gr) : goals (cutG W) ≤ goals W ∧ (goals (cutG W) = goals W → cutG W = W) := by
  have one : ∀ o : Option Nat, sz (cutO W o) ≤ sz o ∧ (sz (cutO W o) = sz o → cutO W o = o) := by
    intro o
    by_cases h : (cutO W o).isSome = true
    · rw [cutO_some h]
      exact ⟨Nat.le_refl _, fun _ => rfl⟩
    · have e0 : sz (cutO W o) = 0 := if_neg h
      rw [e0]
      refine ⟨Nat.zero_le _, fun e => ?_⟩
      cases o with
      | none => rfl
      | some g => exact nomatch (show 0 = 1 from e)
  have gen : ∀ V : Gr, goals (V.map fun p => (cutO W p.1, cutO W p.2)) ≤ goals V ∧ (goals (V.map fun p => (cutO W p.1, cutO W p.2)) = goals V → (V.map fun p => (cutO W p.1, cutO W p.2)) = V) := by
    intro V
    induction V with
    | nil => exact ⟨Nat.le_refl _, fun _ => rfl⟩
    | cons p r ih =>
      have a := one p.1
      have b := one p.2
      rw [List.map_cons, goals_cons, goals_cons]
      show sz (cutO W p.1) + sz (cutO W p.2) + _ ≤ _ ∧ (sz (cutO W p.1) + sz (cutO W p.2) + _ = _ → _)
      refine ⟨?_, fun e => ?_⟩
      · have := ih.1
        have := a.1
        have := b.1
        omega
      · have i1 := ih.1
        have a1 := a.1
        have b1 := b.1
        rw [ih.2 (by omega), a.2 (by omega), b.2 (by omega)]
  exact gen W
theorem cut_closed {W : Gr} (hc : Closed W) : Closed (cutG W) := fun k c j h => by
  rw [go_cut] at h
  rw [cut_len]
  cases e : goG W k c with
  | none =>
    rw [e] at h
    cases h
  | some g =>
    rw [e] at h
    have h : (if W[g]? = some dead then none else some g) = some j := h
    by_cases d : W[g]? = some dead
    · rw [if_pos d] at h
      cases h
    · rw [if_neg d] at h
      rw [← Option.some.inj h]
      exact hc k c g e
end Pw

set_option Elab.async false
set_option linter.all false
/-! places reached from a start, one edge after the other -/
namespace Pw
section
variable {S : Type} [DecidableEq S] (step : S → Bool → Option S)
def tgt (R : List S) (e : Nat) : Option S := (R[e / 2]?).bind fun s => step s (e % 2 == 1)
def run (s : S) : List Bool → Option S
  | [] => some s
  | c :: r => (step s c).bind fun t => run t r
theorem run_app (s : S) : ∀ (x y : List Bool), run step s (x ++ y) = (run step s x).bind fun t => run step t y
  | [], y => rfl
  | c :: r, y => by
    show (step s c).bind (fun t => run step t (r ++ y)) = ((step s c).bind fun t => run step t r).bind fun t => run step t y
    cases step s c with
    | none => rfl
    | some t => exact run_app t r y
theorem run_snoc (s : S) (x : List Bool) (c : Bool) : run step s (x ++ [c]) = (run step s x).bind fun t => step t c := by
  rw [run_app]
  cases run step s x with
  | none => rfl
  | some t =>
    show (step t c).bind (fun u => some u) = step t c
    cases step t c <;> rfl
/-- edges below e are done: R the places so far, P the edge by which each but the first was reached -/
structure BI (s0 : S) (R : List S) (P : List Nat) (e : Nat) : Prop where
  nd : R.Nodup
  hd : R[0]? = some s0
  len : R.length = P.length + 1
  inc : P.Pairwise (· < ·)
  lt : ∀ p ∈ P, p < e
  src : ∀ j p, P[j]? = some p → p / 2 ≤ j ∧ tgt step R p = R[j + 1]?
  all : ∀ e', e' < e → ∀ g, tgt step R e' = some g → g ∈ R
  fst : ∀ j p, P[j]? = some p → ∀ e', e' < p → ∀ g, tgt step R e' = some g → g ∈ R.take (j + 1)
  le : e ≤ 2 * R.length
variable {step}
theorem BI.start (s0 : S) : BI step s0 [s0] [] 0 :=
  ⟨List.nodup_cons.mpr ⟨(fun z => nomatch z), List.nodup_nil⟩, rfl, rfl, .nil, (fun p hp => nomatch hp), (fun j p h => nomatch h), (fun e' h => absurd h (Nat.not_lt_zero _)), (fun j p h => nomatch h), Nat.zero_le _⟩
theorem tgt_app {R : List S} {g : S} {e : Nat} (h : e / 2 < R.length) : tgt step (R ++ [g]) e = tgt step R e := by
  unfold tgt
  rw [List.getElem?_append_left h]
/-- an edge that leads nowhere, or to a place that is there -/
theorem BI.old {s0 : S} {R : List S} {P : List Nat} {e : Nat} (b : BI step s0 R P e) (he : e < 2 * R.length) (h : ∀ g, tgt step R e = some g → g ∈ R) : BI step s0 R P (e + 1) :=
  ⟨b.nd, b.hd, b.len, b.inc, fun p hp => Nat.lt_succ_of_lt (b.lt p hp), b.src, fun e' h' g hg => by
    rcases Nat.lt_succ_iff_lt_or_eq.mp h' with z | z
    · exact b.all e' z g hg
    · subst z
      exact h g hg, b.fst, he⟩
/-- an edge that leads to a new place -/
theorem BI.new {s0 : S} {R : List S} {P : List Nat} {e : Nat} {g : S} (b : BI step s0 R P e) (he : e < 2 * R.length) (h : tgt step R e = some g) (hn : g ∉ R) : BI step s0 (R ++ [g]) (P ++ [e]) (e + 1) := by
  have hlt : e / 2 < R.length := by omega
  have old : ∀ e', e' < e → tgt step (R ++ [g]) e' = tgt step R e' := fun e' h' => tgt_app (by omega)
  refine ⟨?_, ?_, ?_, ?_, ?_, ?_, ?_, ?_, ?_⟩
  · rw [List.nodup_append]
    refine ⟨b.nd, List.nodup_cons.mpr ⟨(fun z => nomatch z), List.nodup_nil⟩, fun a ha c hc e => ?_⟩
    rw [List.mem_singleton.mp hc] at e
    exact hn (e ▸ ha)
  · have := b.hd
    rw [List.getElem?_append_left (List.getElem?_eq_some_iff.mp this).1]
    exact this
  · rw [List.length_append, List.length_append, b.len]
    rfl
  · rw [List.pairwise_append]
    refine ⟨b.inc, List.pairwise_singleton _ _, fun a ha c hc => ?_⟩
    rw [List.mem_singleton.mp hc]
    exact b.lt a ha
  · intro p hp
    rcases List.mem_append.mp hp with z | z
    · exact Nat.lt_succ_of_lt (b.lt p z)
    · rw [List.mem_singleton.mp z]
      exact Nat.lt_succ_self _
  · intro j p hj
    by_cases hjl : j < P.length
    · rw [List.getElem?_append_left hjl] at hj
      obtain ⟨h1, h2⟩ := b.src j p hj
      refine ⟨h1, ?_⟩
      rw [old p (b.lt p (List.mem_of_getElem? hj)), h2, List.getElem?_append_left (by rw [b.len]; omega)]
    · have hjr := hj
      rw [List.getElem?_append_right (by omega)] at hj
      have hj0 : j - P.length = 0 := by
        apply Decidable.byContradiction
        intro hne
        rw [List.getElem?_eq_none (by show 1 ≤ _; omega)] at hj
        cases hj
      rw [hj0] at hj
      obtain rfl : e = p := Option.some.inj hj
      have hje : j = P.length := by omega
      refine ⟨by rw [b.len] at hlt; omega, ?_⟩
      rw [tgt_app hlt, h, hje, ← b.len, List.getElem?_append_right (Nat.le_refl _), Nat.sub_self]
      rfl
  · intro e' h' g' hg
    rcases Nat.lt_succ_iff_lt_or_eq.mp h' with z | z
    · rw [old e' z] at hg
      exact List.mem_append_left _ (b.all e' z g' hg)
    · subst z
      rw [tgt_app hlt, h] at hg
      rw [← Option.some.inj hg]
      exact List.mem_append_right _ (List.mem_singleton.mpr rfl)
  · intro j p hj e' h' g' hg
    by_cases hjl : j < P.length
    · rw [List.getElem?_append_left hjl] at hj
      have hp := b.lt p (List.mem_of_getElem? hj)
      rw [old e' (by omega)] at hg
      have := b.fst j p hj e' h' g' hg
      rw [List.take_append_of_le_length (by rw [b.len]; omega)]
      exact this
    · rw [List.getElem?_append_right (by omega)] at hj
      have hj0 : j - P.length = 0 := by
        apply Decidable.byContradiction
        intro hne
        rw [List.getElem?_eq_none (by show 1 ≤ _; omega)] at hj
        cases hj
      rw [hj0] at hj
      obtain rfl : e = p := Option.some.inj hj
      rw [old e' h'] at hg
      have hje : j = P.length := by omega
      rw [hje, ← b.len, List.take_left']
      · exact b.all e' h' g' hg
      · rfl
  · rw [List.length_append]
    show e + 1 ≤ 2 * (R.length + 1)
    omega
/-- the place of a place -/
def posn (R : List S) (g : S) : Nat := R.findIdx (· == g)
theorem posn_at {R : List S} {g : S} (h : g ∈ R) : R[posn R g]? = some g := by
  have h1 : posn R g < R.length := List.findIdx_lt_length_of_exists ⟨g, h, beq_self_eq_true g⟩
  rw [List.getElem?_eq_getElem h1]
  have h2 : (R[posn R g] == g) = true := List.findIdx_getElem (p := (· == g)) (w := h1)
  rw [eq_of_beq h2]
theorem posn_eq {R : List S} (hn : R.Nodup) {j : Nat} {g : S} (h : R[j]? = some g) : posn R g = j := by
  have hj := (List.getElem?_eq_some_iff.mp h)
  have h2 := posn_at (List.mem_of_getElem? h)
  have h3 := (List.getElem?_eq_some_iff.mp h2)
  exact (List.getElem_inj hn).mp (h3.2.trans hj.2.symm)
/-- the pairs of the first n places -/
def pairsOf (step : S → Bool → Option S) (R : List S) (n : Nat) : Gr := (R.take n).map fun s => ((step s false).map (posn R), (step s true).map (posn R))
theorem pairs_len {R : List S} {n : Nat} (h : n ≤ R.length) : (pairsOf step R n).length = n := by
  unfold pairsOf
  rw [List.length_map, List.length_take]
  omega
theorem go_pairs {R : List S} {k : Nat} {c : Bool} (h : k < R.length) : goG (pairsOf step R R.length) k c = (step R[k] c).map (posn R) := by
  unfold goG pairsOf
  rw [List.take_length, List.getElem?_map, List.getElem?_eq_getElem h]
  show pick _ c = _
  unfold pick
  cases c <;> rfl
structure Done (step : S → Bool → Option S) (s0 : S) (R : List S) (W : Gr) : Prop where
  len : W.length = R.length
  pos : 0 < W.length
  closed : Closed W
  ord : ∃ par, Ord W par
  st : R[0]? = some s0
  nd : R.Nodup
  go : ∀ k s c, R[k]? = some s → goG W k c = (step s c).map (posn R)
  mem : ∀ s ∈ R, ∀ c t, step s c = some t → t ∈ R
theorem BI.done {s0 : S} {R : List S} {P : List Nat} (b : BI step s0 R P (2 * R.length)) : Done step s0 R (pairsOf step R R.length) := by
  have hl := pairs_len (step := step) (R := R) (Nat.le_refl _)
  have mem : ∀ s ∈ R, ∀ c t, step s c = some t → t ∈ R := fun s hs c t ht => by
    obtain ⟨k, hk, e⟩ := List.getElem_of_mem hs
    refine b.all (edge k c) (edge_lt hk) t ?_
    unfold tgt
    rw [edge_div, edge_mod, List.getElem?_eq_getElem hk, e]
    exact ht
  have go : ∀ k s c, R[k]? = some s → goG (pairsOf step R R.length) k c = (step s c).map (posn R) := fun k s c h => by
    obtain ⟨hk, e⟩ := List.getElem?_eq_some_iff.mp h
    rw [go_pairs hk, e]
  have goEt : ∀ e j, goE (pairsOf step R R.length) e = some j → tgt step R e = R[j]? := fun e j h => by
    have h' : goG (pairsOf step R R.length) (e / 2) (e % 2 == 1) = some j := h
    have hk := go_lt h'
    rw [hl] at hk
    rw [go_pairs hk] at h'
    unfold tgt
    rw [List.getElem?_eq_getElem hk]
    show step R[e / 2] (e % 2 == 1) = R[j]?
    cases es : step R[e / 2] (e % 2 == 1) with
    | none =>
      rw [es] at h'
      cases h'
    | some t =>
      rw [es] at h'
      have ht := mem _ (List.getElem_mem hk) _ _ es
      have : posn R t = j := Option.some.inj h'
      rw [← this, posn_at ht]
  have tgtG : ∀ e j, j < R.length → tgt step R e = R[j]? → goE (pairsOf step R R.length) e = some j := fun e j hj h => by
    rw [List.getElem?_eq_getElem hj] at h
    unfold tgt at h
    cases hr : R[e / 2]? with
    | none =>
      rw [hr] at h
      cases h
    | some s =>
      rw [hr] at h
      have h : step s (e % 2 == 1) = some R[j] := h
      unfold goE
      rw [go _ s _ hr, h]
      show some (posn R R[j]) = some j
      rw [posn_eq b.nd (List.getElem?_eq_getElem hj)]
  refine ⟨hl, ?_, ?_, ⟨fun j => P.getD (j - 1) 0, ?_, ?_, ?_⟩, b.hd, b.nd, go, mem⟩
  · rw [hl]
    exact (List.getElem?_eq_some_iff.mp b.hd).1
  · intro k c j h
    have hk := go_lt h
    rw [hl] at hk ⊢
    rw [go_pairs hk] at h
    cases es : step R[k] c with
    | none =>
      rw [es] at h
      cases h
    | some t =>
      rw [es] at h
      have ht := mem _ (List.getElem_mem hk) _ _ es
      have : posn R t = j := Option.some.inj h
      rw [← this]
      exact (List.getElem?_eq_some_iff.mp (posn_at ht)).1
  · intro j h0 hj
    rw [hl] at hj
    have hp : j - 1 < P.length := by
      have := b.len
      omega
    have e : P[j - 1]? = some P[j - 1] := List.getElem?_eq_getElem hp
    obtain ⟨h1, h2⟩ := b.src (j - 1) _ e
    rw [show j - 1 + 1 = j by omega] at h2
    show goE _ (P.getD (j - 1) 0) = _ ∧ _
    rw [List.getD_eq_getElem?_getD, e]
    refine ⟨tgtG _ j hj h2, ?_⟩
    show P[j - 1] < 2 * j
    omega
  · intro j e' h0 hj h
    rw [hl] at hj
    have hp : j - 1 < P.length := by
      have := b.len
      omega
    have e : P[j - 1]? = some P[j - 1] := List.getElem?_eq_getElem hp
    show P.getD (j - 1) 0 ≤ e'
    rw [List.getD_eq_getElem?_getD, e]
    show P[j - 1] ≤ e'
    apply Decidable.byContradiction
    intro hn
    have ht := goEt e' j h
    rw [List.getElem?_eq_getElem hj] at ht
    have := b.fst (j - 1) _ e e' (by omega) _ ht
    rw [show j - 1 + 1 = j by omega] at this
    obtain ⟨i, hi, ei⟩ := List.getElem_of_mem this
    rw [List.getElem_take] at ei
    rw [List.length_take] at hi
    have := (List.getElem_inj b.nd).mp ei
    omega
  · intro i j h0 hij hj
    rw [hl] at hj
    have hl2 := b.len
    show P.getD (i - 1) 0 < P.getD (j - 1) 0
    rw [List.getD_eq_getElem?_getD, List.getD_eq_getElem?_getD, List.getElem?_eq_getElem (show i - 1 < P.length by omega), List.getElem?_eq_getElem (show j - 1 < P.length by omega)]
    exact List.pairwise_iff_getElem.mp b.inc (i - 1) (j - 1) (by omega) (by omega) (by omega)
/-- going along is running -/
theorem Done.runs {s0 : S} {R : List S} {W : Gr} (d : Done step s0 R W) : ∀ (x : List Bool) (k : Nat) (s : S), R[k]? = some s → wlk W k x = (run step s x).map (posn R) ∧ ∀ t, run step s x = some t → t ∈ R
  | [], k, s, h => by
    refine ⟨?_, fun t ht => ?_⟩
    · show some k = some (posn R s)
      rw [posn_eq d.nd h]
    · rw [← Option.some.inj ht]
      exact List.mem_of_getElem? h
  | c :: r, k, s, h => by
    show (goG W k c).bind (fun j => wlk W j r) = ((step s c).bind fun t => run step t r).map (posn R) ∧ ∀ t, (step s c).bind (fun t => run step t r) = some t → t ∈ R
    rw [d.go k s c h]
    cases es : step s c with
    | none => exact ⟨rfl, fun t ht => nomatch ht⟩
    | some t =>
      have ht := d.mem s (List.mem_of_getElem? h) c t es
      exact Done.runs d r (posn R t) t (posn_at ht)
end
end Pw

set_option Elab.async false
set_option linter.all false
/-! parting by rows of so many signs, and the one web of the rows that last -/
namespace Pw
def sameO (f : Nat → Nat → Prop) : Option Nat → Option Nat → Prop
  | none, none => True
  | some a, some b => f a b
  | _, _ => False
/-- rows of at most n signs do not part them -/
def same (W : Gr) : Nat → Nat → Nat → Prop
  | 0, _, _ => True
  | n + 1, i, j => ∀ c, sameO (same W n) (goG W i c) (goG W j c)
def Same (W : Gr) (i j : Nat) : Prop := ∀ x, (wlk W i x).isSome = (wlk W j x).isSome
theorem same_row {W : Gr} : ∀ {n i j : Nat}, same W n i j ↔ ∀ x : List Bool, x.length ≤ n → (wlk W i x).isSome = (wlk W j x).isSome
  | 0, i, j => by
    refine ⟨fun _ x hx => ?_, fun _ => trivial⟩
    cases x with
    | nil => rfl
    | cons c r => exact absurd hx (by rw [List.length_cons]; omega)
  | n + 1, i, j => by
    constructor
    · intro h x hx
      cases x with
      | nil => rfl
      | cons c r =>
        have hc := h c
        show ((goG W i c).bind fun k => wlk W k r).isSome = ((goG W j c).bind fun k => wlk W k r).isSome
        cases e1 : goG W i c with
        | none =>
          cases e2 : goG W j c with
          | none => rfl
          | some b =>
            rw [e1, e2] at hc
            exact hc.elim
        | some a =>
          cases e2 : goG W j c with
          | none =>
            rw [e1, e2] at hc
            exact hc.elim
          | some b =>
            rw [e1, e2] at hc
            exact same_row.mp hc r (by rw [List.length_cons] at hx; omega)
    · intro h c
      have h1 := h [c] (by show 1 ≤ n + 1; omega)
      have w1 : ∀ k, wlk W k [c] = goG W k c := fun k => by
        show (goG W k c).bind (fun j => some j) = _
        cases goG W k c <;> rfl
      rw [w1, w1] at h1
      cases e1 : goG W i c with
      | none =>
        rw [e1] at h1
        cases e2 : goG W j c with
        | none => exact trivial
        | some b =>
          rw [e2] at h1
          cases h1
      | some a =>
        rw [e1] at h1
        cases e2 : goG W j c with
        | none =>
          rw [e2] at h1
          cases h1
        | some b =>
          show same W n a b
          refine same_row.mpr fun r hr => ?_
          have h2 := h (c :: r) (by rw [List.length_cons]; omega)
          have h2 : ((goG W i c).bind fun k => wlk W k r).isSome = ((goG W j c).bind fun k => wlk W k r).isSome := h2
          rw [e1, e2] at h2
          exact h2
theorem same_refl (W : Gr) (n i : Nat) : same W n i i := same_row.mpr fun _ _ => rfl
theorem same_symm {W : Gr} {n i j : Nat} (h : same W n i j) : same W n j i := same_row.mpr fun x hx => (same_row.mp h x hx).symm
theorem same_trans {W : Gr} {n i j k : Nat} (h : same W n i j) (h' : same W n j k) : same W n i k := same_row.mpr fun x hx => (same_row.mp h x hx).trans (same_row.mp h' x hx)
theorem same_le {W : Gr} {n m i j : Nat} (hm : n ≤ m) (h : same W m i j) : same W n i j := same_row.mpr fun x hx => same_row.mp h x (Nat.le_trans hx hm)
theorem same_all {W : Gr} {i j : Nat} : Same W i j ↔ ∀ n, same W n i j := ⟨fun h n => same_row.mpr fun x _ => h x, fun h x => same_row.mp (h x.length) x (Nat.le_refl _)⟩
/-- once a round parts nothing more, none does -/
theorem same_stab {W : Gr} {A : Nat → Prop} (cl : ∀ i c g, A i → goG W i c = some g → A g) {n : Nat} (h : ∀ i j, A i → A j → same W n i j → same W (n + 1) i j) :
    ∀ m i j, A i → A j → same W n i j → same W (n + m) i j := by
  intro m
  induction m with
  | zero => exact fun i j _ _ s => s
  | succ m ih =>
    intro i j hi hj s c
    have hc := h i j hi hj s c
    cases e1 : goG W i c with
    | none =>
      rw [e1] at hc
      cases e2 : goG W j c with
      | none => exact trivial
      | some b =>
        rw [e2] at hc
        exact hc.elim
    | some a =>
      rw [e1] at hc
      cases e2 : goG W j c with
      | none =>
        rw [e2] at hc
        exact hc.elim
      | some b =>
        rw [e2] at hc
        exact ih a b (cl i c a hi e1) (cl j c b hj e2) hc
theorem same_inf {W : Gr} {A : Nat → Prop} (cl : ∀ i c g, A i → goG W i c = some g → A g) {n : Nat} (h : ∀ i j, A i → A j → same W n i j → same W (n + 1) i j) {i j : Nat} (hi : A i) (hj : A j) : same W n i j ↔ Same W i j := by
  rw [same_all]
  refine ⟨fun s m => ?_, fun s => s n⟩
  by_cases hm : m ≤ n
  · exact same_le hm s
  · have := same_stab cl h (m - n) i j hi hj s
    rw [show n + (m - n) = m by omega] at this
    exact this
/-! ### counting groups by their first ones -/
noncomputable def fo (W : Gr) (n i : Nat) : Bool := @decide (∀ j, j < i → ¬ same W n j i) (Classical.propDecidable _)
theorem fo_iff {W : Gr} {n i : Nat} : fo W n i = true ↔ ∀ j, j < i → ¬ same W n j i := by
  unfold fo
  exact @decide_eq_true_iff _ (Classical.propDecidable _)
theorem fo_up {W : Gr} {n i : Nat} (h : fo W n i = true) : fo W (n + 1) i = true := fo_iff.mpr fun j hj s => fo_iff.mp h j hj (same_le (Nat.le_succ n) s)
theorem fo_first (W : Gr) (n : Nat) : ∀ i, ∃ k, k ≤ i ∧ same W n k i ∧ fo W n k = true := by
  intro i
  induction i using Nat.strongRecOn with
  | _ i ih =>
    by_cases h : fo W n i = true
    · exact ⟨i, Nat.le_refl _, same_refl W n i, h⟩
    · rw [fo_iff] at h
      have : ∃ j, j < i ∧ same W n j i := by
        apply Classical.byContradiction
        intro hn
        exact h fun j hj s => hn ⟨j, hj, s⟩
      obtain ⟨j, hj, s⟩ := this
      obtain ⟨k, hk, s', f⟩ := ih j hj
      exact ⟨k, by omega, same_trans s' s, f⟩
noncomputable def cls (W : Gr) (n : Nat) : Nat := cntB (fo W n) W.length
theorem cls_up (W : Gr) (n : Nat) : cls W n ≤ cls W (n + 1) := cntB_mono fun k _ h => fo_up h
theorem cls_le (W : Gr) (n : Nat) : cls W n ≤ W.length := cntB_le _ _
theorem cls_eq {W : Gr} {n : Nat} (h : cls W n = cls W (n + 1)) : ∀ i j, i < W.length → j < W.length → same W n i j → same W (n + 1) i j := by
  intro i j hi hj s
  have back := cntB_eq (p := fo W n) (q := fo W (n + 1)) (N := W.length) (fun k _ f => fo_up f) h
  obtain ⟨a, ha, sa, fa⟩ := fo_first W (n + 1) i
  obtain ⟨b, hb, sb, fb⟩ := fo_first W (n + 1) j
  have fa' := fo_iff.mp (back a (by omega) fa)
  have fb' := fo_iff.mp (back b (by omega) fb)
  have sab : same W n a b := same_trans (same_le (Nat.le_succ n) sa) (same_trans s (same_symm (same_le (Nat.le_succ n) sb)))
  have e : a = b := by
    rcases Nat.lt_trichotomy a b with h1 | h1 | h1
    · exact absurd sab (fb' a h1)
    · exact h1
    · exact absurd (same_symm sab) (fa' b h1)
  subst e
  exact same_trans (same_symm sa) sb
theorem closed_lt {W : Gr} (hc : Closed W) : ∀ i c g, i < W.length → goG W i c = some g → g < W.length := fun i c g _ h => hc i c g h
/-- as many rounds as places are enough -/
theorem same_end {W : Gr} (hc : Closed W) {i j : Nat} (hi : i < W.length) (hj : j < W.length) : same W W.length i j ↔ Same W i j := by
  have grow : ∀ n, (∀ m, m < n → cls W m ≠ cls W (m + 1)) → n ≤ cls W n := by
    intro n
    induction n with
    | zero => exact fun _ => Nat.zero_le _
    | succ n ih =>
      intro h
      have h1 := ih fun m hm => h m (by omega)
      have h2 := cls_up W n
      have h3 := h n (Nat.lt_succ_self n)
      omega
  by_cases hx : ∃ m, m < W.length + 1 ∧ cls W m = cls W (m + 1)
  · obtain ⟨m, hm, e⟩ := hx
    have h1 := same_inf (A := (· < W.length)) (closed_lt hc) (cls_eq e) hi hj
    exact ⟨fun s => h1.mp (same_le (by omega) s), fun s => same_all.mp s _⟩
  · have h1 := grow (W.length + 1) (fun m hm e => hx ⟨m, hm, e⟩)
    have h2 := cls_le W (W.length + 1)
    omega
/-! ### numbers by first appearance -/
section
variable {K : Type} [DecidableEq K]
def ddF (f : Nat → K) : Nat → List K
  | 0 => []
  | n + 1 => if f n ∈ ddF f n then ddF f n else ddF f n ++ [f n]
theorem dd_mem (f : Nat → K) : ∀ n k, k ∈ ddF f n ↔ ∃ i, i < n ∧ f i = k
  | 0, k => ⟨fun h => (nomatch h), fun ⟨i, h, _⟩ => absurd h (Nat.not_lt_zero _)⟩
  | n + 1, k => by
    have ih := dd_mem f n
    show k ∈ (if f n ∈ ddF f n then ddF f n else ddF f n ++ [f n]) ↔ _
    by_cases h : f n ∈ ddF f n
    · rw [if_pos h, ih]
      constructor
      · rintro ⟨i, hi, e⟩
        exact ⟨i, by omega, e⟩
      · rintro ⟨i, hi, e⟩
        by_cases hin : i = n
        · subst hin
          rw [e] at h
          exact (ih k).mp h
        · exact ⟨i, by omega, e⟩
    · rw [if_neg h, List.mem_append, List.mem_singleton, ih]
      constructor
      · rintro (⟨i, hi, e⟩ | e)
        · exact ⟨i, by omega, e⟩
        · exact ⟨n, by omega, e.symm⟩
      · rintro ⟨i, hi, e⟩
        by_cases hin : i = n
        · subst hin
          exact Or.inr e.symm
        · exact Or.inl ⟨i, by omega, e⟩
theorem dd_pre (f : Nat → K) : ∀ m n, ddF f n <+: ddF f (n + m)
  | 0, n => List.prefix_refl _
  | m + 1, n => by
    have ih := dd_pre f m n
    show _ <+: (if f (n + m) ∈ ddF f (n + m) then ddF f (n + m) else ddF f (n + m) ++ [f (n + m)])
    by_cases h : f (n + m) ∈ ddF f (n + m)
    · rw [if_pos h]
      exact ih
    · rw [if_neg h]
      exact ih.trans (List.prefix_append _ _)
theorem dd_nd (f : Nat → K) : ∀ n, (ddF f n).Nodup
  | 0 => List.nodup_nil
  | n + 1 => by
    show (if f n ∈ ddF f n then ddF f n else ddF f n ++ [f n]).Nodup
    by_cases h : f n ∈ ddF f n
    · rw [if_pos h]
      exact dd_nd f n
    · rw [if_neg h, List.nodup_append]
      refine ⟨dd_nd f n, List.nodup_cons.mpr ⟨(fun z => nomatch z), List.nodup_nil⟩, fun a ha c hc e => ?_⟩
      rw [List.mem_singleton.mp hc] at e
      exact h (e ▸ ha)
theorem posn_pre {R R' : List K} (hp : R <+: R') {g : K} (h : g ∈ R) : posn R' g = posn R g := by
  obtain ⟨t, rfl⟩ := hp
  unfold posn
  have h1 : R.findIdx (· == g) < R.length := List.findIdx_lt_length_of_exists ⟨g, h, beq_self_eq_true g⟩
  rw [List.findIdx_append, if_pos h1]
theorem posn_new {R : List K} {g : K} (h : g ∉ R) : posn (R ++ [g]) g = R.length := by
  unfold posn
  have h1 : R.findIdx (· == g) = R.length := by
    rw [List.findIdx_eq_length]
    intro x hx
    exact beq_false_of_ne fun e => h (e ▸ hx)
  rw [List.findIdx_append, if_neg (by omega)]
  show List.findIdx (· == g) [g] + R.length = R.length
  rw [List.findIdx_cons, beq_self_eq_true]
  show 0 + R.length = _
  omega
theorem posn_inj {R : List K} {a b : K} (ha : a ∈ R) (hb : b ∈ R) : posn R a = posn R b ↔ a = b := by
  refine ⟨fun e => ?_, fun e => by rw [e]⟩
  have h1 := posn_at ha
  rw [e, posn_at hb] at h1
  exact (Option.some.inj h1).symm
/-- the number of the i-th by first appearance among the first N -/
def nmb (f : Nat → K) (N i : Nat) : Nat := posn (ddF f N) (f i)
theorem nmb_eq {f : Nat → K} {N i j : Nat} (hi : i < N) (hj : j < N) : nmb f N i = nmb f N j ↔ f i = f j :=
  posn_inj ((dd_mem f N _).mpr ⟨i, hi, rfl⟩) ((dd_mem f N _).mpr ⟨j, hj, rfl⟩)
theorem nmb_step {f : Nat → K} {N i : Nat} (hi : i < N) : nmb f (N + 1) i = nmb f N i := posn_pre (dd_pre f 1 N) ((dd_mem f N _).mpr ⟨i, hi, rfl⟩)
theorem nmb_last (f : Nat → K) (N : Nat) : nmb f (N + 1) N = if f N ∈ ddF f N then posn (ddF f N) (f N) else (ddF f N).length := by
  unfold nmb
  show posn (if f N ∈ ddF f N then ddF f N else ddF f N ++ [f N]) (f N) = _
  by_cases h : f N ∈ ddF f N
  · rw [if_pos h, if_pos h]
  · rw [if_neg h, if_neg h, posn_new h]
theorem dd_len (f : Nat → K) : ∀ N, (ddF f N).length = cntB (fun i => decide (∀ j, j < i → f j ≠ f i)) N
  | 0 => rfl
  | N + 1 => by
    have ih := dd_len f N
    rw [cntB_succ, ← ih]
    show (if f N ∈ ddF f N then ddF f N else ddF f N ++ [f N]).length = _
    by_cases h : f N ∈ ddF f N
    · rw [if_pos h, if_neg]
      · rfl
      · intro d
        have d := of_decide_eq_true d
        obtain ⟨i, hi, e⟩ := (dd_mem f N _).mp h
        exact d i hi e
    · rw [if_neg h, if_pos, List.length_append]
      · rfl
      · refine decide_eq_true fun j hj e => h ((dd_mem f N _).mpr ⟨j, hj, e⟩)
end
theorem cntB_congr {p q : Nat → Bool} {N : Nat} (h : ∀ k, k < N → p k = q k) : cntB p N = cntB q N := Nat.le_antisymm (cntB_mono fun k hk e => by rw [← h k hk]; exact e) (cntB_mono fun k hk e => by rw [h k hk]; exact e)
/-- parted by rows of at most n signs -/
def Parts {K : Type} (A : Nat → Prop) (W : Gr) (n : Nat) (f : Nat → K) : Prop := ∀ i j, A i → A j → (f i = f j ↔ same W n i j)
theorem parts_zero {K : Type} (A : Nat → Prop) (W : Gr) (k : K) : Parts A W 0 (fun _ => k) := fun _ _ _ _ => ⟨fun _ => trivial, fun _ => rfl⟩
theorem parts_next {K : Type} {A : Nat → Prop} {W : Gr} (cl : ∀ i c g, A i → goG W i c = some g → A g) {n : Nat} {f : Nat → K} (h : Parts A W n f) : Parts A W (n + 1) (fun i => ((goG W i false).map f, (goG W i true).map f)) := by
  have one : ∀ i j c, A i → A j → ((goG W i c).map f = (goG W j c).map f ↔ sameO (same W n) (goG W i c) (goG W j c)) := by
    intro i j c hi hj
    cases e1 : goG W i c with
    | none =>
      cases e2 : goG W j c with
      | none => exact ⟨fun _ => trivial, fun _ => rfl⟩
      | some b => exact ⟨fun h => (nomatch h), fun h => h.elim⟩
    | some a =>
      cases e2 : goG W j c with
      | none => exact ⟨fun h => (nomatch h), fun h => h.elim⟩
      | some b =>
        have := h a b (cl i c a hi e1) (cl j c b hj e2)
        show some (f a) = some (f b) ↔ same W n a b
        rw [← this]
        exact ⟨fun e => Option.some.inj e, fun e => by rw [e]⟩
  intro i j hi hj
  constructor
  · intro e c
    have e1 := congrArg Prod.fst e
    have e2 := congrArg Prod.snd e
    cases c with
    | false => exact (one i j false hi hj).mp e1
    | true => exact (one i j true hi hj).mp e2
  · intro s
    exact Prod.ext ((one i j false hi hj).mpr (s false)) ((one i j true hi hj).mpr (s true))
theorem parts_nmb {K : Type} [DecidableEq K] {A : Nat → Prop} {W : Gr} {N n : Nat} {f : Nat → K} (hA : ∀ i, A i → i < N) (h : Parts A W n f) : Parts A W n (nmb f N) := fun i j hi hj => (nmb_eq (hA i hi) (hA j hj)).trans (h i j hi hj)
theorem parts_len {K : Type} [DecidableEq K] {W : Gr} {n : Nat} {f : Nat → K} (h : Parts (· < W.length) W n f) : (ddF f W.length).length = cls W n := by
  rw [dd_len]
  unfold cls
  refine cntB_congr fun k hk => ?_
  rw [Bool.eq_iff_iff, decide_eq_true_iff, fo_iff]
  exact ⟨fun d j hj s => d j hj ((h j k (by show j < _; omega) hk).mpr s), fun d j hj e => d j hj ((h j k (by show j < _; omega) hk).mp e)⟩
/-- two rounds of one parting: it is the last -/
theorem parts_inf {K : Type} {A : Nat → Prop} {W : Gr} (cl : ∀ i c g, A i → goG W i c = some g → A g) {n : Nat} {f : Nat → K} (h : Parts A W n f) (h' : Parts A W (n + 1) f) {i j : Nat} (hi : A i) (hj : A j) : f i = f j ↔ Same W i j :=
  (h i j hi hj).trans (same_inf cl (fun a b ha hb s => (h' a b ha hb).mp ((h a b ha hb).mpr s)) hi hj)
theorem parts_cls {K : Type} {W : Gr} (hc : Closed W) {n : Nat} {f : Nat → K} (h : Parts (· < W.length) W (n + 1) f) (e : cls W n = cls W (n + 1)) {i j : Nat} (hi : i < W.length) (hj : j < W.length) : f i = f j ↔ Same W i j := by
  have st := cls_eq e
  rw [h i j hi hj, ← same_inf (A := (· < W.length)) (closed_lt hc) st hi hj]
  exact ⟨fun s => same_le (Nat.le_succ n) s, fun s => st i j hi hj s⟩
end Pw

set_option Elab.async false
set_option linter.all false
/-! the one web of a set of rows -/
namespace Pw
/-- rows that begin so are as long as one likes -/
def Lst (L : List Bool → Bool) (x : List Bool) : Prop := ∀ n, ∃ y : List Bool, y.length = n ∧ L (x ++ y) = true
structure WebOf (L : List Bool → Bool) (W : Gr) : Prop where
  nil : ¬ Lst L [] → W = []
  pos : Lst L [] → 0 < W.length
  closed : Closed W
  minim : Minim W
  ord : ∃ par, Ord W par
  lang : Lst L [] → ∀ x, (wlk W 0 x).isSome = true ↔ Lst L x
theorem WebOf.one {L : List Bool → Bool} {W W' : Gr} (h : WebOf L W) (h' : WebOf L W') : W = W' := by
  by_cases hl : Lst L []
  · obtain ⟨p, o⟩ := h.ord
    obtain ⟨p', o'⟩ := h'.ord
    refine web_one o o' h.closed h'.closed h.minim h'.minim (h.pos hl) (h'.pos hl) fun x => ?_
    rw [Bool.eq_iff_iff, h.lang hl x, h'.lang hl x]
  · rw [h.nil hl, h'.nil hl]
theorem WebOf.empty {L : List Bool → Bool} (h : ¬ Lst L []) : WebOf L [] :=
  ⟨fun _ => rfl, fun z => absurd z h, (fun k c j e => nomatch (show (none : Option Nat) = some j from e)), fun i j hi => absurd hi (Nat.not_lt_zero _), ⟨fun _ => 0, fun j _ hj => absurd hj (Nat.not_lt_zero _), fun j e _ hj => absurd hj (Nat.not_lt_zero _), fun i j _ _ hj => absurd hj (Nat.not_lt_zero _)⟩, fun z => absurd z h⟩
/-- a graph whose rows are just these -/
structure RawOf (L : List Bool → Bool) (W : Gr) : Prop where
  pos : 0 < W.length
  closed : Closed W
  ord : ∃ par, Ord W par
  lang : ∀ x, (wlk W 0 x).isSome = L x
theorem RawOf.lives {L : List Bool → Bool} {W : Gr} (r : RawOf L W) {x : List Bool} {k : Nat} (h : wlk W 0 x = some k) : Lives W k ↔ Lst L x := by
  have e : ∀ y, L (x ++ y) = (wlk W k y).isSome := fun y => by
    rw [← r.lang, wlk_app, h]
    rfl
  constructor
  · intro l n
    obtain ⟨y, hy, hs⟩ := alv_row.mp (l n)
    exact ⟨y, hy, by rw [e]; exact hs⟩
  · intro l n
    obtain ⟨y, hy, hs⟩ := l n
    exact alv_row.mpr ⟨y, hy, by rw [← e]; exact hs⟩
/-- what is left where all is cut that does not go on for ever -/
structure IsCut (W C : Gr) : Prop where
  len : C.length = W.length
  go : ∀ k c g, goG C k c = some g ↔ goG W k c = some g ∧ Lives W g
theorem IsCut.closed {W C : Gr} (h : IsCut W C) (hc : Closed W) : Closed C := fun k c j e => by
  rw [h.len]
  exact hc k c j ((h.go k c j).mp e).1
theorem isCut_of {W : Gr} (hc : Closed W) {n : Nat} (h : cutG (cutN W n) = cutN W n) : IsCut W (cutN W n) := ⟨cutN_len W n, cut_end hc h⟩
theorem IsCut.walk {W C : Gr} (h : IsCut W C) : ∀ (x : List Bool) (k g : Nat), Lives W k → (wlk C k x = some g ↔ wlk W k x = some g ∧ Lives W g)
  | [], k, g, hk => by
    show some k = some g ↔ some k = some g ∧ _
    refine ⟨fun e => ⟨e, ?_⟩, fun e => e.1⟩
    rw [← Option.some.inj e]
    exact hk
  | c :: r, k, g, hk => by
    show (goG C k c).bind (fun j => wlk C j r) = some g ↔ (goG W k c).bind (fun j => wlk W j r) = some g ∧ Lives W g
    constructor
    · intro e
      cases e1 : goG C k c with
      | none =>
        rw [e1] at e
        cases e
      | some j =>
        rw [e1] at e
        obtain ⟨e2, l⟩ := (h.go k c j).mp e1
        rw [e2]
        exact (IsCut.walk h r j g l).mp e
    · rintro ⟨e, l⟩
      cases e1 : goG W k c with
      | none =>
        rw [e1] at e
        cases e
      | some j =>
        rw [e1] at e
        have e : Pw.wlk W j r = some g := e
        have lj : Lives W j := fun n => by
          obtain ⟨y, hy, hs⟩ := alv_row.mp (l n)
          have : alv W (r.length + n) j = true := alv_row.mpr ⟨r ++ y, by rw [List.length_append, hy], by rw [wlk_app, e]; exact hs⟩
          exact alv_le (by omega) this
        rw [(h.go k c j).mpr ⟨e1, lj⟩]
        exact (IsCut.walk h r j g lj).mpr ⟨e, l⟩
theorem RawOf.cut {L : List Bool → Bool} {W C : Gr} (r : RawOf L W) (h : IsCut W C) (l0 : Lst L []) (x : List Bool) : (wlk C 0 x).isSome = true ↔ Lst L x := by
  have h0 : Lives W 0 := (r.lives (x := []) rfl).mpr l0
  constructor
  · intro e
    obtain ⟨g, e⟩ := Option.isSome_iff_exists.mp e
    obtain ⟨e1, l⟩ := (h.walk x 0 g h0).mp e
    exact (r.lives e1).mp l
  · intro l
    obtain ⟨y, hy, hs⟩ := l 0
    obtain rfl : y = [] := List.length_eq_zero_iff.mp hy
    rw [List.append_nil, ← r.lang] at hs
    obtain ⟨g, e⟩ := Option.isSome_iff_exists.mp hs
    rw [(h.walk x 0 g h0).mpr ⟨e, (r.lives e).mpr l⟩]
    rfl
/-- the first place has no goal just where nothing lasts -/
theorem RawOf.dead {L : List Bool → Bool} {W C : Gr} (r : RawOf L W) (h : IsCut W C) : C[0]? = some dead ↔ ¬ Lst L [] := by
  rw [dead_iff (by rw [h.len]; exact r.pos), ← r.lives (x := []) rfl]
  constructor
  · intro d l
    obtain ⟨c, j, e, lj⟩ := lives_go r.closed r.pos l
    have := (h.go 0 c j).mpr ⟨e, lj⟩
    rw [d c] at this
    cases this
  · intro l c
    cases e : goG C 0 c with
    | none => rfl
    | some g =>
      obtain ⟨e1, lg⟩ := (h.go 0 c g).mp e
      exact absurd (lives_back e1 lg) l
/-! ### merged by groups, numbered by first reach -/
theorem run_grp {S : Type} {C : Gr} (hc : Closed C) {f : Nat → S} {st : S → Bool → Option S} (h : ∀ i c, i < C.length → st (f i) c = (goG C i c).map f) : ∀ (x : List Bool) (i : Nat), i < C.length → run st (f i) x = (wlk C i x).map f
  | [], i, hi => rfl
  | c :: r, i, hi => by
    show (st (f i) c).bind (fun t => run st t r) = ((goG C i c).bind fun j => wlk C j r).map f
    rw [h i c hi]
    cases e : goG C i c with
    | none => rfl
    | some j => exact run_grp hc h r j (hc i c j e)
theorem web_grp {S : Type} [DecidableEq S] {L : List Bool → Bool} {W C M : Gr} {f : Nat → S} {st : S → Bool → Option S} {R : List S} (r : RawOf L W) (hcut : IsCut W C) (l0 : Lst L [])
    (hf : ∀ i j, i < C.length → j < C.length → (f i = f j ↔ Same C i j)) (hs : ∀ i c, i < C.length → st (f i) c = (goG C i c).map f) (d : Done st (f 0) R M) : WebOf L M := by
  have hc := hcut.closed r.closed
  have c0 : 0 < C.length := by rw [hcut.len]; exact r.pos
  have rn := run_grp hc hs
  have d0 := fun x => (Done.runs d x 0 (f 0) d.st)
  have from0 : ∀ k, k < M.length → ∃ p, p < C.length ∧ R[k]? = some (f p) := by
    intro k hk
    obtain ⟨par, o⟩ := d.ord
    obtain ⟨x, hx⟩ := o.reach k hk
    obtain ⟨e1, e2⟩ := d0 x
    rw [hx, rn x 0 c0] at e1
    rw [rn x 0 c0] at e2
    cases e : wlk C 0 x with
    | none =>
      rw [e] at e1
      cases e1
    | some p =>
      rw [e] at e1 e2
      refine ⟨p, wlk_lt hc x 0 p c0 e, ?_⟩
      have h1 : k = posn R (f p) := Option.some.inj e1
      rw [h1]
      exact posn_at (e2 (f p) rfl)
  refine ⟨fun z => absurd l0 z, fun _ => d.pos, d.closed, ?_, d.ord, fun _ x => ?_⟩
  · intro i j hi hj h
    obtain ⟨p, hp, ep⟩ := from0 i hi
    obtain ⟨q, hq, eq⟩ := from0 j hj
    have hpq : f p = f q := (hf p q hp hq).mpr fun x => by
      have := h x
      rw [(Done.runs d x i _ ep).1, (Done.runs d x j _ eq).1, rn x p hp, rn x q hq] at this
      rw [Option.isSome_map, Option.isSome_map, Option.isSome_map, Option.isSome_map] at this
      exact this
    rw [← posn_eq d.nd ep, hpq, posn_eq d.nd eq]
  · rw [(d0 x).1, rn x 0 c0, Option.isSome_map, Option.isSome_map]
    exact r.cut hcut l0 x
/-! ### by the first place of each kind -/
structure Heads (W C : Gr) (n : Nat) (hd num : Nat → Nat) : Prop where
  pos : 0 < n
  zero : hd 0 = 0
  alive : ∀ k, k < n → hd k < W.length ∧ Lives W (hd k)
  inc : ∀ i j, i < j → j < n → hd i < hd j
  lt : ∀ g, g < W.length → Lives W g → num g < n
  sm : ∀ g, g < W.length → Lives W g → Same C (hd (num g)) g
  le : ∀ g, g < W.length → Lives W g → hd (num g) ≤ g
  inj : ∀ g h, g < W.length → Lives W g → h < W.length → Lives W h → Same C g h → num g = num h
  back : ∀ k, k < n → num (hd k) = k
theorem edge_le {a b : Nat} {c d : Bool} : edge a c ≤ edge b d ↔ a < b ∨ (a = b ∧ (c = true → d = true)) := by
  unfold edge
  cases c <;> cases d <;> simp <;> omega
theorem edge_lts {a b : Nat} {c d : Bool} : edge a c < edge b d ↔ a < b ∨ (a = b ∧ c = false ∧ d = true) := by
  unfold edge
  cases c <;> cases d <;> simp <;> omega
theorem web_heads {L : List Bool → Bool} {W C M : Gr} {n : Nat} {hd num : Nat → Nat} (r : RawOf L W) (hcut : IsCut W C) (l0 : Lst L []) (H : Heads W C n hd num) (hl : M.length = n) (hg : ∀ k c, k < n → goG M k c = (goG C (hd k) c).map num) : WebOf L M := by
  have hc := hcut.closed r.closed
  have wk : ∀ (x : List Bool) (k : Nat), k < n → (wlk M k x).isSome = (wlk C (hd k) x).isSome := by
    intro x
    induction x with
    | nil => exact fun k _ => rfl
    | cons c x ih =>
      intro k hk
      show ((goG M k c).bind fun j => wlk M j x).isSome = ((goG C (hd k) c).bind fun j => wlk C j x).isSome
      rw [hg k c hk]
      cases e : goG C (hd k) c with
      | none => rfl
      | some g =>
        obtain ⟨e1, lg⟩ := (hcut.go _ _ _).mp e
        have hgl := r.closed _ _ _ e1
        show (wlk M (num g) x).isSome = (wlk C g x).isSome
        rw [ih (num g) (H.lt g hgl lg)]
        exact H.sm g hgl lg x
  obtain ⟨par, o⟩ := r.ord
  -- the way to a head leads from a head
  have src : ∀ j, 0 < j → j < n → ∃ i c, i < j ∧ par (hd j) = edge (hd i) c ∧ goG C (hd i) c = some (hd j) := by
    intro j h0 hj
    obtain ⟨hjl, lj⟩ := H.alive j hj
    have hj0 : 0 < hd j := by
      have := H.inc 0 j h0 hj
      omega
    obtain ⟨e1, e2⟩ := o.to (hd j) hj0 hjl
    have e1' : goG W (par (hd j) / 2) (par (hd j) % 2 == 1) = some (hd j) := e1
    generalize hk : par (hd j) / 2 = k at e1'
    generalize hcc : (par (hd j) % 2 == 1) = c at e1'
    have pe : par (hd j) = edge k c := by rw [← hk, ← hcc, edge_of]
    have kl : k < W.length := go_lt e1'
    have lk : Lives W k := lives_back e1' lj
    have ek : goG C k c = some (hd j) := (hcut.go _ _ _).mpr ⟨e1', lj⟩
    have hle := H.le k kl lk
    have hsm := H.sm k kl lk
    have hi := H.lt k kl lk
    -- the head of k goes on alike
    have : ∃ g, goG C (hd (num k)) c = some g ∧ Same C g (hd j) := by
      have s1 := hsm [c]
      have w1 : ∀ k, wlk C k [c] = goG C k c := fun k => by
        show (goG C k c).bind (fun j => some j) = _
        cases goG C k c <;> rfl
      rw [w1, w1, ek] at s1
      obtain ⟨g, eg⟩ := Option.isSome_iff_exists.mp s1
      refine ⟨g, eg, fun x => ?_⟩
      have s2 := hsm (c :: x)
      have s2 : ((goG C (hd (num k)) c).bind fun j => wlk C j x).isSome = ((goG C k c).bind fun j => wlk C j x).isSome := s2
      rw [eg, ek] at s2
      exact s2
    obtain ⟨g, eg, sg⟩ := this
    obtain ⟨eg1, lg⟩ := (hcut.go _ _ _).mp eg
    have gl := r.closed _ _ _ eg1
    have ng : num g = j := by rw [H.inj g (hd j) gl lg hjl lj sg, H.back j hj]
    have gge : hd j ≤ g := by
      have := H.le g gl lg
      rw [ng] at this
      exact this
    have hkk : hd (num k) = k := by
      apply Decidable.byContradiction
      intro hne
      have hlt : hd (num k) < k := by omega
      have p1 : par g ≤ edge (hd (num k)) c := o.least g _ (by omega) gl (by rw [goE_edge]; exact eg1)
      have p2 : edge (hd (num k)) c < edge k c := edge_lts.mpr (Or.inl hlt)
      by_cases hgj : g = hd j
      · rw [hgj] at p1
        omega
      · have := o.inc (hd j) g hj0 (by omega) gl
        omega
    refine ⟨num k, c, ?_, by rw [hkk]; exact pe, by rw [hkk]; exact ek⟩
    apply Decidable.byContradiction
    intro hn
    by_cases he : num k = j
    · rw [he] at hkk
      have : par (hd j) / 2 < hd j := by omega
      omega
    · have := H.inc j (num k) (by omega) hi
      have : par (hd j) / 2 < hd j := by omega
      omega
  -- heads keep the order of edges
  have mono : ∀ a b c d, a < n → b < n → (edge (hd a) c ≤ edge (hd b) d → edge a c ≤ edge b d) := by
    intro a b c d ha hb h
    rcases edge_le.mp h with h1 | ⟨h1, h2⟩
    · refine edge_le.mpr (Or.inl ?_)
      apply Decidable.byContradiction
      intro hn
      by_cases e : a = b
      · rw [e] at h1
        omega
      · have := H.inc b a (by omega) ha
        omega
    · refine edge_le.mpr (Or.inr ⟨?_, h2⟩)
      rw [← H.back a ha, h1, H.back b hb]
  have monoL : ∀ a b c d, a < n → b < n → (edge (hd a) c < edge (hd b) d → edge a c < edge b d) := by
    intro a b c d ha hb h
    rcases edge_lts.mp h with h1 | ⟨h1, h2⟩
    · refine edge_lts.mpr (Or.inl ?_)
      apply Decidable.byContradiction
      intro hn
      by_cases e : a = b
      · rw [e] at h1
        omega
      · have := H.inc b a (by omega) ha
        omega
    · refine edge_lts.mpr (Or.inr ⟨?_, h2⟩)
      rw [← H.back a ha, h1, H.back b hb]
  let par' : Nat → Nat := fun j => edge (num (par (hd j) / 2)) (par (hd j) % 2 == 1)
  have pr : ∀ j i c, i < n → par (hd j) = edge (hd i) c → par' j = edge i c := by
    intro j i c hi e
    show edge (num (par (hd j) / 2)) (par (hd j) % 2 == 1) = edge i c
    rw [e, edge_div, edge_mod, H.back i hi]
  refine ⟨fun z => absurd l0 z, fun _ => by rw [hl]; exact H.pos, ?_, ?_, ⟨par', ?_, ?_, ?_⟩, fun _ x => ?_⟩
  · intro k c j e
    have hk := go_lt e
    rw [hl] at hk ⊢
    rw [hg k c hk] at e
    cases e1 : goG C (hd k) c with
    | none =>
      rw [e1] at e
      cases e
    | some g =>
      rw [e1] at e
      obtain ⟨e2, lg⟩ := (hcut.go _ _ _).mp e1
      rw [← Option.some.inj e]
      exact H.lt g (r.closed _ _ _ e2) lg
  · intro i j hi hj h
    rw [hl] at hi hj
    obtain ⟨a1, a2⟩ := H.alive i hi
    obtain ⟨b1, b2⟩ := H.alive j hj
    rw [← H.back i hi, ← H.back j hj]
    refine H.inj _ _ a1 a2 b1 b2 fun x => ?_
    rw [← wk x i hi, ← wk x j hj]
    exact h x
  · intro j h0 hj
    rw [hl] at hj
    obtain ⟨i, c, hij, e1, e2⟩ := src j h0 hj
    rw [pr j i c (by omega) e1]
    refine ⟨?_, ?_⟩
    · rw [goE_edge, hg i c (by omega), e2]
      show some (num (hd j)) = some j
      rw [H.back j hj]
    · exact edge_lt hij
  · intro j e h0 hj he
    rw [hl] at hj
    obtain ⟨i, c, hij, e1, e2⟩ := src j h0 hj
    rw [pr j i c (by omega) e1]
    have he : goG M (e / 2) (e % 2 == 1) = some j := he
    have hk := go_lt he
    rw [hl] at hk
    rw [← edge_of e]
    rw [hg _ _ hk] at he
    cases eg : goG C (hd (e / 2)) (e % 2 == 1) with
    | none =>
      rw [eg] at he
      cases he
    | some g =>
      rw [eg] at he
      have ng : num g = j := Option.some.inj he
      obtain ⟨eg1, lg⟩ := (hcut.go _ _ _).mp eg
      have gl := r.closed _ _ _ eg1
      have gge := H.le g gl lg
      rw [ng] at gge
      have hj0 : 0 < hd j := by
        have := H.inc 0 j h0 hj
        omega
      have p1 : par g ≤ edge (hd (e / 2)) (e % 2 == 1) := o.least g _ (by omega) gl (by rw [goE_edge]; exact eg1)
      have p2 : par (hd j) ≤ par g := by
        by_cases hgj : g = hd j
        · rw [hgj]
          exact Nat.le_refl _
        · exact Nat.le_of_lt (o.inc (hd j) g hj0 (by omega) gl)
      rw [e1] at p2
      exact mono _ _ _ _ (by omega) hk (Nat.le_trans p2 p1)
  · intro i j h0 hij hj
    rw [hl] at hj
    obtain ⟨a, c, ha, e1, _⟩ := src i h0 (by omega)
    obtain ⟨b, d, hb, e2, _⟩ := src j (by omega) hj
    rw [pr i a c (by omega) e1, pr j b d (by omega) e2]
    have hi0 : 0 < hd i := by
      have := H.inc 0 i h0 (by omega)
      omega
    have := o.inc (hd i) (hd j) hi0 (H.inc i j hij hj) (H.alive j hj).1
    rw [e1, e2] at this
    exact monoL _ _ _ _ (by omega) (by omega) this
  · rw [wk x 0 H.pos, H.zero]
    exact r.cut hcut l0 x
/-- a graph that numbers what is reached by running has just these rows -/
theorem raw_of {S : Type} [DecidableEq S] {L : List Bool → Bool} {st : S → Bool → Option S} {s0 : S} {R : List S} {W : Gr} (d : Done st s0 R W) (h : ∀ x, (run st s0 x).isSome = L x) : RawOf L W :=
  ⟨d.pos, d.closed, d.ord, fun x => by rw [(Done.runs d x 0 s0 d.st).1, Option.isSome_map]; exact h x⟩
/-- what matters of a row tells all -/
theorem run_key {S : Type} [DecidableEq S] {L : List Bool → Bool} {key : List Bool → S} {st : S → Bool → Option S} (l0 : L [] = true) (lp : ∀ x c, L (x ++ [c]) = true → L x = true)
    (h : ∀ x c, L x = true → st (key x) c = if L (x ++ [c]) = true then some (key (x ++ [c])) else none) : ∀ n (x : List Bool), x.length = n → run st (key []) x = if L x = true then some (key x) else none := by
  intro n
  induction n with
  | zero =>
    intro x hx
    obtain rfl := List.length_eq_zero_iff.mp hx
    rw [if_pos l0]
    rfl
  | succ n ih =>
    intro x hx
    have hne : x ≠ [] := fun e => by rw [e] at hx; cases hx
    have hd : x = x.dropLast ++ [x.getLast hne] := (List.dropLast_concat_getLast hne).symm
    generalize x.dropLast = y at hd
    generalize x.getLast hne = c at hd
    subst hd
    have hy : y.length = n := by
      rw [List.length_append] at hx
      exact Nat.succ.inj hx
    rw [run_snoc, ih y hy]
    by_cases hl : L y = true
    · rw [if_pos hl]
      exact h y c hl
    · rw [if_neg hl, if_neg (fun z => hl (lp y c z))]
      rfl
theorem run_lang {S : Type} [DecidableEq S] {L : List Bool → Bool} {key : List Bool → S} {st : S → Bool → Option S} (l0 : L [] = true) (lp : ∀ x c, L (x ++ [c]) = true → L x = true)
    (h : ∀ x c, L x = true → st (key x) c = if L (x ++ [c]) = true then some (key (x ++ [c])) else none) (x : List Bool) : (run st (key []) x).isSome = L x := by
  rw [run_key l0 lp h x.length x rfl]
  by_cases hl : L x = true
  · rw [if_pos hl, hl]
    rfl
  · rw [if_neg hl]
    cases e : L x with
    | false => rfl
    | true => exact absurd e hl
end Pw

set_option Elab.async false
set_option linter.all false
set_option maxRecDepth 100000
/-! what matters of a row: by the ends that begin a barred piece, by its last signs -/
namespace Pw
open PySem PySem.Builtin PySem.Builtin.Str PySem.StrLaws TL
theorem has_infix {l w : List Nat} : Has l w ↔ w <:+: l := by
  constructor
  · rintro ⟨i, h⟩
    exact h.isInfix.trans (List.drop_suffix i l).isInfix
  · rintro ⟨s, t, e⟩
    refine ⟨s.length, ?_⟩
    rw [← e, List.append_assoc, List.drop_left]
    exact List.prefix_append _ _
/-- no barred piece, not too far -/
def Ok (Q : List (List Nat)) (wd : Option Int) (l : List Nat) : Prop := (∀ w ∈ Q, ¬ w <:+: l) ∧ ∀ s, wd = some s → wid l ≤ s
theorem law_ok {xs : List Str} {lo : Int} {hi wd : Option Int} {l : List Nat} (hp : Pure l) (hx : ∀ x ∈ xs, tl x ≠ []) (hl : 0 ≤ lo) (hh : ∀ h, hi = some h → 0 ≤ h) : lawB xs lo hi wd l = true ↔ Ok (piecesL xs lo hi) wd l := by
  have h := law_take (wd := wd) hp hx hl hh (Nat.le_refl l.length)
  rw [List.take_length] at h
  have hne := pieces_ne (lo := lo) hx hh
  constructor
  · intro t
    have no : ¬ ∃ e, some e ∈ endsL xs lo hi wd l ∧ e ≤ l.length := fun z => by
      rw [h.mpr z] at t
      cases t
    refine ⟨fun w hw z => ?_, fun s hs => ?_⟩
    · obtain ⟨e, he⟩ := Option.isSome_iff_exists.mp ((fEnd_some (hne w hw)).mpr (has_infix.mpr z))
      exact no ⟨e, List.mem_append_left _ (List.mem_map.mpr ⟨w, hw, he⟩), fEnd_le (hne w hw) he⟩
    · apply Decidable.byContradiction
      intro z
      have z : s < wid (l.take l.length) := by
        rw [List.take_length]
        omega
      obtain ⟨e, he, hle⟩ := (span_take (Nat.le_refl _)).mp z
      exact no ⟨e, List.mem_append_right _ (List.mem_singleton.mpr (by rw [hs]; exact he.symm)), hle⟩
  · rintro ⟨o1, o2⟩
    cases e : lawB xs lo hi wd l with
    | true => rfl
    | false =>
      obtain ⟨k, hk, hle⟩ := h.mp e
      exfalso
      rcases List.mem_append.mp hk with z | z
      · obtain ⟨w, hw, hf⟩ := List.mem_map.mp z
        exact o1 w hw (has_infix.mp ((fEnd_some (hne w hw)).mp (by rw [hf]; rfl)))
      · have z := (List.mem_singleton.mp z).symm
        cases wd with
        | none => cases z
        | some s =>
          have := (span_take (Nat.le_refl l.length)).mpr ⟨k, z, hle⟩
          rw [List.take_length] at this
          have := o2 s rfl
          omega
theorem ok_snoc {Q : List (List Nat)} {wd : Option Int} {l : List Nat} {c : Nat} : Ok Q wd (l ++ [c]) ↔ Ok Q wd l ∧ (∀ w ∈ Q, ¬ w <:+ l ++ [c]) ∧ ∀ s, wd = some s → wid (l ++ [c]) ≤ s := by
  constructor
  · rintro ⟨h1, h2⟩
    refine ⟨⟨fun w hw z => h1 w hw (z.trans (List.prefix_append l [c]).isInfix), fun s hs => ?_⟩, fun w hw z => h1 w hw z.isInfix, h2⟩
    have := wid_mono (l ++ [c]) (i := l.length) (k := (l ++ [c]).length) (by rw [List.length_append]; omega)
    rw [List.take_left, List.take_length] at this
    exact Int.le_trans this (h2 s hs)
  · rintro ⟨⟨h1, _⟩, h2, h3⟩
    refine ⟨fun w hw z => ?_, h3⟩
    rcases List.infix_concat_iff.mp z with y | y
    · exact h2 w hw y
    · exact h1 w hw y
/-! ### how far the sum has swung -/
theorem hiS_mid (l : List Nat) : (hiS l).2.2 ≤ (hiS l).1 ∧ (hiS l).1 ≤ (hiS l).2.1 := by
  have h1 := hiS_top l
  have h2 : (hiS l).1 ∈ sums l := List.mem_map.mpr ⟨l.length, List.mem_range.mpr (Nat.lt_succ_self _), by rw [List.take_length]⟩
  exact ⟨h1.2.2 _ h2, h1.1.2 _ h2⟩
def sw (wd : Option Int) (l : List Nat) : Int × Int := match wd with | none => (0, 0) | some _ => ((hiS l).1 - (hiS l).2.2, (hiS l).2.1 - (hiS l).1)
def mv (p : Int × Int) (c : Nat) (wd : Option Int) : Option (Int × Int) := match wd with
  | none => some (0, 0)
  | some s => let m := if c = 49 then (p.1 + 1, max 0 (p.2 - 1)) else (max 0 (p.1 - 1), p.2 + 1)
    if m.1 + m.2 ≤ s then some m else none
theorem sw_sum (s : Int) (l : List Nat) : (sw (some s) l).1 + (sw (some s) l).2 = wid l := by
  show (hiS l).1 - (hiS l).2.2 + ((hiS l).2.1 - (hiS l).1) = (hiS l).2.1 - (hiS l).2.2
  omega
theorem sw_nn (wd : Option Int) (l : List Nat) : 0 ≤ (sw wd l).1 ∧ 0 ≤ (sw wd l).2 := by
  cases wd with
  | none => exact ⟨Int.le_refl _, Int.le_refl _⟩
  | some s =>
    have := hiS_mid l
    show 0 ≤ (hiS l).1 - (hiS l).2.2 ∧ 0 ≤ (hiS l).2.1 - (hiS l).1
    omega
theorem sw_snoc (s : Int) (l : List Nat) (c : Nat) : sw (some s) (l ++ [c]) = if c = 49 then ((sw (some s) l).1 + 1, max 0 ((sw (some s) l).2 - 1)) else (max 0 ((sw (some s) l).1 - 1), (sw (some s) l).2 + 1) := by
  have hm := hiS_mid l
  show ((hiS (l ++ [c])).1 - (hiS (l ++ [c])).2.2, (hiS (l ++ [c])).2.1 - (hiS (l ++ [c])).1) = if c = 49 then ((hiS l).1 - (hiS l).2.2 + 1, max 0 ((hiS l).2.1 - (hiS l).1 - 1)) else (max 0 ((hiS l).1 - (hiS l).2.2 - 1), (hiS l).2.1 - (hiS l).1 + 1)
  rw [hiS_snoc]
  by_cases h : c = 49
  · rw [if_pos h]
    have e : step (hiS l).1 c = (hiS l).1 + 1 := if_pos h
    rw [e]
    dsimp only
    refine Prod.ext ?_ ?_
    · dsimp only
      split <;> omega
    · dsimp only
      split <;> omega
  · rw [if_neg h]
    have e : step (hiS l).1 c = (hiS l).1 - 1 := if_neg h
    rw [e]
    dsimp only
    refine Prod.ext ?_ ?_
    · dsimp only
      split <;> omega
    · dsimp only
      split <;> omega
theorem mv_yes {wd : Option Int} {l : List Nat} {c : Nat} (h : ∀ s, wd = some s → wid (l ++ [c]) ≤ s) : mv (sw wd l) c wd = some (sw wd (l ++ [c])) := by
  cases wd with
  | none => rfl
  | some s =>
    have h1 := sw_snoc s l c
    have h2 := sw_sum s (l ++ [c])
    have h3 := h s rfl
    unfold mv
    dsimp only
    rw [← h1, if_pos (by omega)]
theorem mv_no {s : Int} {l : List Nat} {c : Nat} (h : ¬ wid (l ++ [c]) ≤ s) : mv (sw (some s) l) c (some s) = none := by
  have h1 := sw_snoc s l c
  have h2 := sw_sum s (l ++ [c])
  unfold mv
  dsimp only
  rw [← h1, if_neg (by omega)]
/-! ### the longest end that begins a piece -/
def lend (B : List (List Nat)) : List Nat → List Nat
  | [] => []
  | c :: r => if c :: r ∈ B then c :: r else lend B r
theorem lend_spec (B : List (List Nat)) : ∀ l, lend B l <:+ l ∧ (lend B l = [] ∨ lend B l ∈ B) ∧ ∀ v, v <:+ l → v ∈ B → v.length ≤ (lend B l).length
  | [] => ⟨List.suffix_refl _, Or.inl rfl, fun v h _ => by rw [List.suffix_nil.mp h]; exact Nat.le_refl _⟩
  | c :: r => by
    unfold lend
    by_cases h : c :: r ∈ B
    · rw [if_pos h]
      exact ⟨List.suffix_refl _, Or.inr h, fun v hv _ => hv.length_le⟩
    · rw [if_neg h]
      obtain ⟨h1, h2, h3⟩ := lend_spec B r
      refine ⟨h1.trans (List.suffix_cons c r), h2, fun v hv hb => ?_⟩
      rcases List.suffix_cons_iff.mp hv with e | e
      · rw [e] at hb
        exact absurd hb h
      · exact h3 v e hb
theorem suf_snoc {p l : List Nat} {c : Nat} (hp : p ≠ []) (h : p <:+ l ++ [c]) : ∃ q, p = q ++ [c] ∧ q <:+ l := by
  rcases List.suffix_concat_iff.mp h with e | ⟨t, e, h'⟩
  · exact absurd e hp
  · exact ⟨t, e, h'⟩
theorem suf_snoc' {q l : List Nat} {c : Nat} (h : q <:+ l) : q ++ [c] <:+ l ++ [c] := by
  obtain ⟨t, e⟩ := h
  exact ⟨t, by rw [← e, List.append_assoc]⟩
theorem suf_eq {a b l : List Nat} (ha : a <:+ l) (hb : b <:+ l) (h : a.length = b.length) : a = b :=
  (List.suffix_of_suffix_length_le ha hb (Nat.le_of_eq h)).eq_of_length h
/-- all beginnings of the pieces that are shorter than these, and the empty one -/
def Beg (Q B : List (List Nat)) : Prop := ∀ w, w ∈ B ↔ w = [] ∨ ∃ p ∈ Q, w <+: p ∧ w.length < p.length
theorem beg_cut {Q B : List (List Nat)} (hB : Beg Q B) {w : List Nat} {c : Nat} (h : w ++ [c] ∈ B) : w ∈ B := by
  rcases (hB _).mp h with e | ⟨p, hp, h1, h2⟩
  · exact absurd e (by simp)
  · refine (hB _).mpr (Or.inr ⟨p, hp, (List.prefix_append w [c]).trans h1, ?_⟩)
    rw [List.length_append] at h2
    omega
theorem lend_suf {Q B : List (List Nat)} (hB : Beg Q B) {l : List Nat} {c : Nat} {p : List Nat} (hp : p ∈ Q) (hne : p ≠ []) : p <:+ lend B l ++ [c] ↔ p <:+ l ++ [c] := by
  obtain ⟨h1, h2, h3⟩ := lend_spec B l
  constructor
  · intro h
    exact h.trans (suf_snoc' h1)
  · intro h
    obtain ⟨q, e, hq⟩ := suf_snoc hne h
    have hqB : q ∈ B := (hB q).mpr (Or.inr ⟨p, hp, by rw [e]; exact List.prefix_append _ _, by rw [e, List.length_append]; show _ < _ + 1; omega⟩)
    rw [e]
    exact suf_snoc' (List.suffix_of_suffix_length_le hq h1 (h3 q hq hqB))
theorem lend_snoc {Q B : List (List Nat)} (hB : Beg Q B) (l : List Nat) (c : Nat) : lend B (lend B l ++ [c]) = lend B (l ++ [c]) := by
  obtain ⟨h1, h2, h3⟩ := lend_spec B l
  obtain ⟨a1, a2, a3⟩ := lend_spec B (lend B l ++ [c])
  obtain ⟨b1, b2, b3⟩ := lend_spec B (l ++ [c])
  have a1' : lend B (lend B l ++ [c]) <:+ l ++ [c] := a1.trans (suf_snoc' h1)
  refine suf_eq a1' b1 (Nat.le_antisymm ?_ ?_)
  · rcases a2 with e | e
    · rw [e]
      exact Nat.zero_le _
    · exact b3 _ a1' e
  · rcases b2 with e | e
    · rw [e]
      exact Nat.zero_le _
    · by_cases hn : lend B (l ++ [c]) = []
      · rw [hn]
        exact Nat.zero_le _
      · obtain ⟨q, eq, hq⟩ := suf_snoc hn b1
        rw [eq] at e ⊢
        have hqB := beg_cut hB e
        exact a3 _ (suf_snoc' (List.suffix_of_suffix_length_le hq h1 (h3 q hq hqB))) e
/-! ### the two keys and their steps -/
abbrev Tr := List Nat × Int × Int
def tauP (B : List (List Nat)) (wd : Option Int) (l : List Nat) : Tr := (lend B l, sw wd l)
def hits (Q : List (List Nat)) (l : List Nat) : Bool := Q.any fun p => decide (p <:+ l)
theorem hits_iff {Q : List (List Nat)} {l : List Nat} : hits Q l = true ↔ ∃ p ∈ Q, p <:+ l := by
  unfold hits
  rw [List.any_eq_true]
  exact ⟨fun ⟨p, h, d⟩ => ⟨p, h, of_decide_eq_true d⟩, fun ⟨p, h, d⟩ => ⟨p, h, decide_eq_true d⟩⟩
def stP (Q B : List (List Nat)) (wd : Option Int) (t : Tr) (c : Nat) : Option Tr := (mv t.2 c wd).bind fun m => if hits Q (t.1 ++ [c]) = true then none else some (lend B (t.1 ++ [c]), m)
theorem stP_yes {Q B : List (List Nat)} {wd : Option Int} (hB : Beg Q B) (hQ : ∀ w ∈ Q, w ≠ []) {l : List Nat} {c : Nat} (h : Ok Q wd (l ++ [c])) : stP Q B wd (tauP B wd l) c = some (tauP B wd (l ++ [c])) := by
  obtain ⟨_, h2, h3⟩ := ok_snoc.mp h
  show (mv (sw wd l) c wd).bind (fun m => if hits Q (lend B l ++ [c]) = true then none else some (lend B (lend B l ++ [c]), m)) = some (lend B (l ++ [c]), sw wd (l ++ [c]))
  rw [mv_yes h3]
  show (if hits Q (lend B l ++ [c]) = true then none else some (lend B (lend B l ++ [c]), sw wd (l ++ [c]))) = _
  rw [if_neg, lend_snoc hB]
  intro z
  obtain ⟨p, hp, hs⟩ := hits_iff.mp z
  exact h2 p hp ((lend_suf hB hp (hQ p hp)).mp hs)
theorem stP_no {Q B : List (List Nat)} {wd : Option Int} (hB : Beg Q B) (hQ : ∀ w ∈ Q, w ≠ []) {l : List Nat} {c : Nat} (h0 : Ok Q wd l) (h : ¬ Ok Q wd (l ++ [c])) : stP Q B wd (tauP B wd l) c = none := by
  show (mv (sw wd l) c wd).bind (fun m => if hits Q (lend B l ++ [c]) = true then none else some (lend B (lend B l ++ [c]), m)) = none
  by_cases h3 : ∀ s, wd = some s → wid (l ++ [c]) ≤ s
  · rw [mv_yes h3]
    show (if hits Q (lend B l ++ [c]) = true then none else some (lend B (lend B l ++ [c]), sw wd (l ++ [c]))) = none
    rw [if_pos]
    apply Classical.byContradiction
    intro z
    refine h (ok_snoc.mpr ⟨h0, fun w hw y => z (hits_iff.mpr ⟨w, hw, (lend_suf hB hw (hQ w hw)).mpr y⟩), h3⟩)
  · cases wd with
    | none => exact absurd (fun s hs => nomatch hs) h3
    | some s =>
      have : ¬ wid (l ++ [c]) ≤ s := fun z => h3 fun s' e => by rw [← Option.some.inj e]; exact z
      rw [mv_no this]
      rfl
/-! ### by the last four signs -/
def last4 (l : List Nat) : List Nat := l.drop (l.length - 4)
theorem last4_suf (l : List Nat) : last4 l <:+ l := List.drop_suffix _ _
theorem last4_len (l : List Nat) : (last4 l).length = min 4 l.length := by
  unfold last4
  rw [List.length_drop]
  omega
theorem last4_sufs {p l : List Nat} {c : Nat} (h5 : p.length ≤ 5) : p <:+ last4 l ++ [c] ↔ p <:+ l ++ [c] := by
  have h1 : last4 l ++ [c] <:+ l ++ [c] := suf_snoc' (last4_suf l)
  constructor
  · exact fun h => h.trans h1
  · intro h
    by_cases hl : 4 ≤ l.length
    · refine List.suffix_of_suffix_length_le h h1 ?_
      rw [List.length_append, last4_len]
      show _ ≤ _ + 1
      omega
    · have : last4 l = l := suf_eq (last4_suf l) (List.suffix_refl l) (by rw [last4_len]; omega)
      rw [this]
      exact h
theorem last4_snoc (l : List Nat) (c : Nat) : last4 (last4 l ++ [c]) = last4 (l ++ [c]) := by
  refine suf_eq ((last4_suf _).trans (suf_snoc' (last4_suf l))) (last4_suf _) ?_
  rw [last4_len, last4_len, List.length_append, List.length_append, last4_len]
  show min 4 (_ + 1) = min 4 (_ + 1)
  omega
def tz (l : List Nat) : Nat := (l.reverse.takeWhile (· == 48)).length
theorem tz_snoc (l : List Nat) (c : Nat) : tz (l ++ [c]) = if c = 48 then tz l + 1 else 0 := by
  unfold tz
  rw [List.reverse_append]
  show ((c :: l.reverse).takeWhile (· == 48)).length = _
  rw [List.takeWhile_cons]
  by_cases h : c = 48
  · rw [if_pos h, h]
    rfl
  · rw [if_neg h, beq_false_of_ne h]
    rfl
theorem zer_pre : ∀ (k : Nat) (m : List Nat), zerosL k <+: m ↔ k ≤ (m.takeWhile (· == 48)).length
  | 0, m => ⟨fun _ => Nat.zero_le _, fun _ => List.nil_prefix⟩
  | k + 1, [] => ⟨fun h => absurd h (by simp [zerosL, List.replicate_succ]), fun h => absurd h (by simp)⟩
  | k + 1, c :: r => by
    have e : zerosL (k + 1) = 48 :: zerosL k := rfl
    rw [e, List.cons_prefix_cons, zer_pre k r, List.takeWhile_cons]
    by_cases h : c = 48
    · rw [h]
      show 48 = 48 ∧ _ ↔ k + 1 ≤ (48 :: r.takeWhile (· == 48)).length
      rw [List.length_cons]
      omega
    · rw [beq_false_of_ne h]
      refine ⟨fun z => absurd z.1.symm h, fun z => ?_⟩
      have z : k + 1 ≤ 0 := z
      omega
theorem zer_suf (k : Nat) (l : List Nat) : zerosL k <:+ l ↔ k ≤ tz l := by
  unfold tz
  rw [← zer_pre, ← List.reverse_prefix]
  have : (zerosL k).reverse = zerosL k := List.reverse_replicate ..
  rw [this]
abbrev Ky := List Nat × Nat × Bool × Int × Int
def has1 (l : List Nat) : Bool := l.contains 49
def tauK (wd : Option Int) (l : List Nat) : Ky := (last4 l, min 8 (tz l), has1 l, (sw wd l).2, (sw wd l).1)
/-- a row of noughts that is one too long -/
def idleB (hi : Option Int) (z c : Nat) : Bool := match hi with | none => false | some h => decide (c = 48) && decide (h.toNat ≤ z)
def stK (P : List (List Nat)) (hi wd : Option Int) (t : Ky) (c : Nat) : Option Ky := (mv (t.2.2.2.2, t.2.2.2.1) c wd).bind fun m =>
  if (hits P (t.1 ++ [c]) || idleB hi t.2.1 c) = true then none else some (last4 (t.1 ++ [c]), (if c = 48 then min 8 (t.2.1 + 1) else 0), (t.2.2.1 || c == 49), m.2, m.1)
/-- the pieces but the row of noughts -/
def shortL (xs : List Str) (lo : Int) : List (List Nat) := xs.map tl ++ (List.range lo.toNat).map gapW
theorem short_hits {xs : List Str} {lo : Int} {hi : Option Int} (hx : ∀ x ∈ xs, (tl x).length ≤ 5) (hl : lo ≤ 3) (hh : ∀ h, hi = some h → 0 ≤ h ∧ h ≤ 7) (l : List Nat) (c : Nat) :
    (hits (shortL xs lo) (last4 l ++ [c]) || idleB hi (min 8 (tz l)) c) = true ↔ ∃ w ∈ piecesL xs lo hi, w <:+ l ++ [c] := by
  have short : ∀ p ∈ shortL xs lo, p.length ≤ 5 := by
    intro p hp
    rcases List.mem_append.mp hp with z | z
    · obtain ⟨x, h1, rfl⟩ := List.mem_map.mp z
      exact hx x h1
    · obtain ⟨m, h1, rfl⟩ := List.mem_map.mp z
      have := List.mem_range.mp h1
      show (49 :: (zerosL m ++ [49])).length ≤ 5
      rw [List.length_cons, List.length_append, zerosL, List.length_replicate]
      show m + 1 + 1 ≤ 5
      omega
  rw [Bool.or_eq_true, hits_iff]
  constructor
  · rintro (⟨p, hp, hs⟩ | h)
    · exact ⟨p, List.mem_append_left _ hp, (last4_sufs (short p hp)).mp hs⟩
    · cases hi with
      | none => cases h
      | some h' =>
        obtain ⟨a, b⟩ := hh h' rfl
        obtain ⟨c1, c2⟩ := Bool.and_eq_true_iff.mp h
        have c1 := of_decide_eq_true c1
        have c2 := of_decide_eq_true c2
        refine ⟨_, List.mem_append_right _ (List.mem_singleton.mpr rfl), ?_⟩
        rw [zer_suf, tz_snoc, if_pos c1]
        omega
  · rintro ⟨w, hw, hs⟩
    rcases List.mem_append.mp hw with z | z
    · exact Or.inl ⟨w, z, (last4_sufs (short w z)).mpr hs⟩
    · cases hi with
      | none => cases z
      | some h' =>
        obtain ⟨a, b⟩ := hh h' rfl
        rw [List.mem_singleton.mp z, zer_suf, tz_snoc] at hs
        refine Or.inr ?_
        by_cases hc : c = 48
        · rw [if_pos hc] at hs
          show (decide (c = 48) && decide (h'.toNat ≤ min 8 (tz l))) = true
          rw [decide_eq_true hc, decide_eq_true (by omega)]
          rfl
        · rw [if_neg hc] at hs
          omega
theorem tauK_snoc (wd : Option Int) (l : List Nat) (c : Nat) : (last4 (last4 l ++ [c]), (if c = 48 then min 8 (min 8 (tz l) + 1) else 0), (has1 l || c == 49), (sw wd (l ++ [c])).2, (sw wd (l ++ [c])).1) = tauK wd (l ++ [c]) := by
  unfold tauK
  rw [last4_snoc, tz_snoc]
  have e1 : (if c = 48 then min 8 (min 8 (tz l) + 1) else 0) = min 8 (if c = 48 then tz l + 1 else 0) := by
    by_cases h : c = 48
    · rw [if_pos h, if_pos h]
      omega
    · rw [if_neg h, if_neg h]
      rfl
  have e2 : has1 (l ++ [c]) = (has1 l || c == 49) := by
    unfold has1
    rw [Bool.eq_iff_iff, Bool.or_eq_true, List.contains_iff_mem, List.contains_iff_mem, List.mem_append, List.mem_singleton, beq_iff_eq]
    exact ⟨fun h => h.imp id Eq.symm, fun h => h.imp id Eq.symm⟩
  rw [e1, e2]
theorem stK_yes {xs : List Str} {lo : Int} {hi wd : Option Int} (hx : ∀ x ∈ xs, (tl x).length ≤ 5) (hl : lo ≤ 3) (hh : ∀ h, hi = some h → 0 ≤ h ∧ h ≤ 7) {l : List Nat} {c : Nat} (h : Ok (piecesL xs lo hi) wd (l ++ [c])) :
    stK (shortL xs lo) hi wd (tauK wd l) c = some (tauK wd (l ++ [c])) := by
  obtain ⟨_, h2, h3⟩ := ok_snoc.mp h
  show (mv (sw wd l) c wd).bind (fun m => if (hits (shortL xs lo) (last4 l ++ [c]) || idleB hi (min 8 (tz l)) c) = true then none else some (last4 (last4 l ++ [c]), (if c = 48 then min 8 (min 8 (tz l) + 1) else 0), (has1 l || c == 49), m.2, m.1)) = _
  rw [mv_yes h3]
  show (if (hits (shortL xs lo) (last4 l ++ [c]) || idleB hi (min 8 (tz l)) c) = true then none else _) = _
  rw [if_neg, ← tauK_snoc]
  intro z
  obtain ⟨p, hp, hs⟩ := (short_hits hx hl hh l c).mp z
  exact h2 p hp hs
theorem stK_no {xs : List Str} {lo : Int} {hi wd : Option Int} (hx : ∀ x ∈ xs, (tl x).length ≤ 5) (hl : lo ≤ 3) (hh : ∀ h, hi = some h → 0 ≤ h ∧ h ≤ 7) {l : List Nat} {c : Nat} (h0 : Ok (piecesL xs lo hi) wd l) (h : ¬ Ok (piecesL xs lo hi) wd (l ++ [c])) :
    stK (shortL xs lo) hi wd (tauK wd l) c = none := by
  show (mv (sw wd l) c wd).bind (fun m => if (hits (shortL xs lo) (last4 l ++ [c]) || idleB hi (min 8 (tz l)) c) = true then none else some (last4 (last4 l ++ [c]), (if c = 48 then min 8 (min 8 (tz l) + 1) else 0), (has1 l || c == 49), m.2, m.1)) = _
  by_cases h3 : ∀ s, wd = some s → wid (l ++ [c]) ≤ s
  · rw [mv_yes h3]
    show (if (hits (shortL xs lo) (last4 l ++ [c]) || idleB hi (min 8 (tz l)) c) = true then none else _) = none
    rw [if_pos]
    apply Classical.byContradiction
    intro z
    refine h (ok_snoc.mpr ⟨h0, fun w hw y => z ((short_hits hx hl hh l c).mpr ⟨w, hw, y⟩), h3⟩)
  · cases wd with
    | none => exact absurd (fun s hs => nomatch hs) h3
    | some s =>
      have : ¬ wid (l ++ [c]) ≤ s := fun z => h3 fun s' e => by rw [← Option.some.inj e]; exact z
      rw [mv_no this]
      rfl
end Pw

set_option Elab.async false
set_option linter.all false
set_option maxRecDepth 100000
/-! the raw webs of a rule have just its lawful rows, and few places -/
namespace Pw
open PySem PySem.Builtin PySem.Builtin.Str PySem.StrLaws TL
def sgn (c : Bool) : Nat := if c = true then 49 else 48
def rwS (x : List Bool) : List Nat := x.map sgn
theorem rw_pure (x : List Bool) : Pure (rwS x) := fun c hc => by
  obtain ⟨b, _, e⟩ := List.mem_map.mp hc
  cases b with
  | false => exact Or.inl e.symm
  | true => exact Or.inr e.symm
theorem rw_snoc (x : List Bool) (c : Bool) : rwS (x ++ [c]) = rwS x ++ [sgn c] := List.map_append ..
theorem rw_of {l : List Nat} (h : Pure l) : ∃ x, rwS x = l := by
  induction l with
  | nil => exact ⟨[], rfl⟩
  | cons c r ih =>
    obtain ⟨x, hx⟩ := ih fun d hd => h d (List.mem_cons_of_mem _ hd)
    rcases h c (List.mem_cons_self ..) with e | e
    · exact ⟨false :: x, by rw [e, ← hx]; rfl⟩
    · exact ⟨true :: x, by rw [e, ← hx]; rfl⟩
theorem rw_inj {x y : List Bool} (h : rwS x = rwS y) : x = y := by
  refine List.map_inj_right (f := sgn) ?_ |>.mp h
  intro a b e
  cases a <;> cases b <;> first | rfl | cases e
/-- what a rule must be for its rows to be so: words of one to five signs, bounds that are let -/
structure RuleOk (xs : List Str) (lo : Int) (hi wd : Option Int) : Prop where
  ne : ∀ x ∈ xs, tl x ≠ []
  five : ∀ x ∈ xs, (tl x).length ≤ 5
  lo0 : 0 ≤ lo
  lo3 : lo ≤ 3
  hi : ∀ h, hi = some h → 0 ≤ h ∧ h ≤ 7
  wd : ∀ s, wd = some s → 0 ≤ s
variable {xs : List Str} {lo : Int} {hi wd : Option Int}
def lawR (xs : List Str) (lo : Int) (hi wd : Option Int) (x : List Bool) : Bool := lawB xs lo hi wd (rwS x)
theorem RuleOk.ok (r : RuleOk xs lo hi wd) {l : List Nat} (hp : Pure l) : lawB xs lo hi wd l = true ↔ Ok (piecesL xs lo hi) wd l := law_ok hp r.ne r.lo0 fun h e => (r.hi h e).1
theorem RuleOk.pne (r : RuleOk xs lo hi wd) : ∀ w ∈ piecesL xs lo hi, w ≠ [] := pieces_ne r.ne fun h e => (r.hi h e).1
theorem RuleOk.nil (r : RuleOk xs lo hi wd) : lawR xs lo hi wd [] = true := by
  refine (r.ok (rw_pure [])).mpr ⟨fun w hw z => r.pne w hw (List.infix_nil.mp z), fun s hs => ?_⟩
  exact r.wd s hs
theorem RuleOk.cut (r : RuleOk xs lo hi wd) (x : List Bool) (c : Bool) (h : lawR xs lo hi wd (x ++ [c]) = true) : lawR xs lo hi wd x = true := by
  have h := (r.ok (rw_pure _)).mp h
  rw [rw_snoc] at h
  exact (r.ok (rw_pure x)).mpr (ok_snoc.mp h).1
def stPb (Q B : List (List Nat)) (wd : Option Int) (t : Tr) (c : Bool) : Option Tr := stP Q B wd t (sgn c)
def stKb (P : List (List Nat)) (hi wd : Option Int) (t : Ky) (c : Bool) : Option Ky := stK P hi wd t (sgn c)
theorem RuleOk.stepP (r : RuleOk xs lo hi wd) {B : List (List Nat)} (hB : Beg (piecesL xs lo hi) B) (x : List Bool) (c : Bool) (h : lawR xs lo hi wd x = true) :
    stPb (piecesL xs lo hi) B wd (tauP B wd (rwS x)) c = if lawR xs lo hi wd (x ++ [c]) = true then some (tauP B wd (rwS (x ++ [c]))) else none := by
  have h0 := (r.ok (rw_pure x)).mp h
  by_cases hl : lawR xs lo hi wd (x ++ [c]) = true
  · rw [if_pos hl, rw_snoc]
    have h1 := (r.ok (rw_pure _)).mp hl
    rw [rw_snoc] at h1
    exact stP_yes hB r.pne h1
  · rw [if_neg hl]
    refine stP_no hB r.pne h0 fun z => hl ((r.ok (rw_pure _)).mpr ?_)
    rw [rw_snoc]
    exact z
theorem RuleOk.stepK (r : RuleOk xs lo hi wd) (x : List Bool) (c : Bool) (h : lawR xs lo hi wd x = true) :
    stKb (shortL xs lo) hi wd (tauK wd (rwS x)) c = if lawR xs lo hi wd (x ++ [c]) = true then some (tauK wd (rwS (x ++ [c]))) else none := by
  have h0 := (r.ok (rw_pure x)).mp h
  by_cases hl : lawR xs lo hi wd (x ++ [c]) = true
  · rw [if_pos hl, rw_snoc]
    have h1 := (r.ok (rw_pure _)).mp hl
    rw [rw_snoc] at h1
    exact stK_yes r.five r.lo3 r.hi h1
  · rw [if_neg hl]
    refine stK_no r.five r.lo3 r.hi h0 fun z => hl ((r.ok (rw_pure _)).mpr ?_)
    rw [rw_snoc]
    exact z
theorem RuleOk.rawP (r : RuleOk xs lo hi wd) {B : List (List Nat)} (hB : Beg (piecesL xs lo hi) B) {R : List Tr} {W : Gr} (d : Done (stPb (piecesL xs lo hi) B wd) (tauP B wd []) R W) : RawOf (lawR xs lo hi wd) W :=
  raw_of d fun x => run_lang (key := fun x => tauP B wd (rwS x)) r.nil r.cut (r.stepP hB) x
theorem RuleOk.rawK (r : RuleOk xs lo hi wd) {R : List Ky} {W : Gr} (d : Done (stKb (shortL xs lo) hi wd) (tauK wd []) R W) : RawOf (lawR xs lo hi wd) W :=
  raw_of d fun x => run_lang (key := fun x => tauK wd (rwS x)) r.nil r.cut r.stepK x
/-! ### few places -/
theorem nd_le {α : Type} [DecidableEq α] : ∀ (R U : List α), R.Nodup → (∀ a ∈ R, a ∈ U) → R.length ≤ U.length
  | [], U, _, _ => Nat.zero_le _
  | a :: r, U, h, hs => by
    obtain ⟨h1, h2⟩ := List.nodup_cons.mp h
    have ha := hs a (List.mem_cons_self ..)
    have := nd_le r (U.erase a) h2 fun b hb => (List.mem_erase_of_ne (show b ≠ a from fun e => h1 (by rw [← e]; exact hb))).mpr (hs b (List.mem_cons_of_mem _ hb))
    rw [List.length_erase_of_mem ha] at this
    have hp := List.length_pos_of_mem ha
    rw [List.length_cons]
    omega
def spanN (wd : Option Int) : Nat := match wd with | none => 0 | some s => s.toNat
def swU (wd : Option Int) : List (Int × Int) := (List.range (spanN wd + 1)).flatMap fun a => (List.range (spanN wd + 1)).map fun b => (((a : Nat) : Int), ((b : Nat) : Int))
theorem sw_mem {l : List Nat} (h : ∀ s, wd = some s → wid l ≤ s) : sw wd l ∈ swU wd := by
  have hb : (sw wd l).1 ≤ (spanN wd : Int) ∧ (sw wd l).2 ≤ (spanN wd : Int) := by
    cases wd with
    | none => exact ⟨Int.le_refl _, Int.le_refl _⟩
    | some s =>
      have h1 := sw_sum s l
      have h2 := sw_nn (some s) l
      have h3 := h s rfl
      show _ ≤ ((s.toNat : Nat) : Int) ∧ _ ≤ ((s.toNat : Nat) : Int)
      omega
  have h2 := sw_nn wd l
  refine List.mem_flatMap.mpr ⟨(sw wd l).1.toNat, List.mem_range.mpr (by omega), List.mem_map.mpr ⟨(sw wd l).2.toNat, List.mem_range.mpr (by omega), ?_⟩⟩
  refine Prod.ext ?_ ?_
  · exact Int.toNat_of_nonneg h2.1
  · exact Int.toNat_of_nonneg h2.2
def trU (B : List (List Nat)) (wd : Option Int) : List Tr := B.flatMap fun w => (swU wd).map fun p => (w, p)
theorem tr_mem {Q B : List (List Nat)} (hB : Beg Q B) {l : List Nat} (h : Ok Q wd l) : tauP B wd l ∈ trU B wd := by
  refine List.mem_flatMap.mpr ⟨lend B l, ?_, List.mem_map.mpr ⟨sw wd l, sw_mem h.2, rfl⟩⟩
  rcases (lend_spec B l).2.1 with e | e
  · exact (hB _).mpr (Or.inl e)
  · exact e
def rowsLe : Nat → List (List Nat)
  | 0 => [[]]
  | n + 1 => [] :: (rowsLe n).flatMap fun r => [48 :: r, 49 :: r]
theorem rows_mem : ∀ {n : Nat} {l : List Nat}, Pure l → l.length ≤ n → l ∈ rowsLe n
  | 0, l, _, h => by
    rw [List.length_eq_zero_iff.mp (Nat.le_zero.mp h)]
    exact List.mem_singleton.mpr rfl
  | n + 1, [], _, _ => List.mem_cons_self ..
  | n + 1, c :: r, hp, h => by
    refine List.mem_cons_of_mem _ (List.mem_flatMap.mpr ⟨r, rows_mem (fun d hd => hp d (List.mem_cons_of_mem _ hd)) (by rw [List.length_cons] at h; omega), ?_⟩)
    rcases hp c (List.mem_cons_self ..) with e | e
    · rw [e]
      exact List.mem_cons_self ..
    · rw [e]
      exact List.mem_cons_of_mem _ (List.mem_cons_self ..)
def kyU (wd : Option Int) : List Ky := (rowsLe 4).flatMap fun w => (List.range 9).flatMap fun z => [true, false].flatMap fun o => (swU wd).map fun p => (w, z, o, p.2, p.1)
theorem ky_mem {Q : List (List Nat)} {l : List Nat} (hp : Pure l) (h : Ok Q wd l) : tauK wd l ∈ kyU wd := by
  refine List.mem_flatMap.mpr ⟨last4 l, rows_mem (fun c hc => hp c ((last4_suf l).subset hc)) (by rw [last4_len]; omega), List.mem_flatMap.mpr ⟨min 8 (tz l), List.mem_range.mpr (by omega), List.mem_flatMap.mpr ⟨has1 l, ?_, List.mem_map.mpr ⟨sw wd l, sw_mem h.2, rfl⟩⟩⟩⟩
  cases has1 l with
  | true => exact List.mem_cons_self ..
  | false => exact List.mem_cons_of_mem _ (List.mem_cons_self ..)
end Pw

set_option Elab.async false
set_option linter.all false
set_option maxRecDepth 100000
set_option maxHeartbeats 4000000
/-! zip of lists, tuples and texts, two or three of them in any mix -/
namespace Pw
open PySem PySem.Spec PySem.Calls PyProof.Rows L2 TL
theorem vals_back : ∀ {xs : List V} {us : List Value} {i : Nat} {u : Value}, Vals xs us → us[i]? = some u → ∃ x, xs[i]? = some x ∧ RelV x u
  | _, _, _, _, .nil, e => by simp at e
  | _, _, 0, _, .cons r _, e => by
    obtain rfl := Option.some.inj e
    exact ⟨_, rfl, r⟩
  | _, _, i + 1, u, .cons _ t, e => by
    obtain ⟨x, h1, h2⟩ := vals_back (i := i) (u := u) t (by simpa using e)
    exact ⟨x, by simpa using h1, h2⟩
/-- what a zip goes along -/
inductive Sr
  | lst (a : Addr)
  | tup (a : Addr)
  | str (x : Str)
def Sr.v : Sr → V
  | .lst a => .ref a
  | .tup a => .ref a
  | .str x => .str x
def chV (x : Str) : List V := (tl x).map fun c => V.str ⟨#[c]⟩
def Sr.its (K : PySem.W.Frag) (H : Hp) (sr : Sr) (xs : List V) : Prop := match sr with
  | .lst a => SqL K H a xs
  | .tup a => SqT K H a xs
  | .str x => xs = chV x
def Sr.here (h : Heap) (it : Addr) (i : Nat) : Sr → Prop
  | .lst a => h.IsListIter it a i
  | .tup a => h.IsTupleIter it a i
  | .str x => ∃ t, h.IsStrIter it (strIterType x) x t i
def Sr.far (it : Addr) (sr : Sr) : Prop := sr.v ≠ .ref it
theorem Sr.inj {X : Cx} {pins : List (Addr × Obj)} {σ : L2.St} {H : Hp} {s : Shared} (I : Inv X pins σ H s) {sr : Sr} {xs ys : List V} (h1 : sr.its X.K H xs) (h2 : sr.its X.K H ys) : xs = ys := by
  cases sr with
  | lst a => exact I.list_inj h1 h2
  | tup a => exact I.tuple_inj h1 h2
  | str x => exact Eq.trans h1 (Eq.symm h2)
theorem Sr.keep {h h' : Heap} {it : Addr} {i : Nat} {sr : Sr} (e : sr.here h it i) (k : ∀ o, h.get? it = some o → h'.get? it = some o) : sr.here h' it i := by
  cases sr with
  | lst a => exact Heap.IsListIter.at e k
  | tup a => exact Heap.IsTupleIter.at e k
  | str x =>
    obtain ⟨t, o, ho, r⟩ := e
    exact ⟨t, o, k o ho, r⟩
theorem Sr.live {h : Heap} {it : Addr} {i : Nat} {sr : Sr} (e : sr.here h it i) : ∃ o, h.get? it = some o ∧ ∀ v, o.data ≠ .cell v := by
  cases sr with
  | lst a =>
    obtain ⟨o, e, _, d⟩ := e
    exact ⟨o, e, fun v q => by rw [d] at q; cases q⟩
  | tup a =>
    obtain ⟨o, e, _, d⟩ := e
    exact ⟨o, e, fun v q => by rw [d] at q; cases q⟩
  | str x =>
    obtain ⟨t, o, e, _, d⟩ := e
    exact ⟨o, e, fun v q => by rw [d] at q; cases q⟩
theorem Sr.draws {X : Cx} {pins : List (Addr × Obj)} {σ : L2.St} {H : Hp} {s : Shared} (I : Inv X pins σ H s) (hc : X.calm = true) {sr : Sr} {xs : List V} {it : Addr} {i : Nat} (h : sr.its X.K H xs) (f : sr.far it) (st : sr.here s.heap it i) :
    ∃ (fp : List Addr) (P : Nat → Value → Prop) (St : Nat → Heap → Prop), Draws X.prog X.w X.A.in1 it fp xs.length P St ∧ St i s.heap ∧ (∀ j h', St j h' → sr.here h' it j) ∧ (∀ j v, P j v → ∃ x, xs[j]? = some x ∧ RelV x v) ∧ it ∈ fp ∧ ∀ c ∈ fp, c = it ∨ sr.v = .ref c := by
  have hh : X.A.in1.handled = none := I.ok.hd hc
  cases sr with
  | lst a =>
    obtain ⟨its, rv, p, _⟩ := I.list h
    have e : xs.length = its.toArray.size := by rw [rv.length]; simp
    rw [e]
    refine ⟨_, _, _, Draws.list hh it a (fun z => f (by rw [z]; rfl)) its.toArray, ⟨st, p.isList⟩, fun j h' q => q.1, fun j v q => ?_, by simp, fun c hcm => ?_⟩
    · exact vals_back rv (by simpa using q)
    · have : c = it ∨ c = a := by simpa using hcm
      rcases this with z | z
      · exact .inl z
      · exact .inr (by rw [z]; rfl)
  | tup a =>
    obtain ⟨its, rv, p, _⟩ := I.tuple h
    have e : xs.length = its.toArray.size := by rw [rv.length]; simp
    rw [e]
    refine ⟨_, _, _, Draws.tuple hh it a (fun z => f (by rw [z]; rfl)) its.toArray, ⟨st, p⟩, fun j h' q => q.1, fun j v q => ?_, by simp, fun c hcm => ?_⟩
    · exact vals_back rv (by simpa using q)
    · have : c = it ∨ c = a := by simpa using hcm
      rcases this with z | z
      · exact .inl z
      · exact .inr (by rw [z]; rfl)
  | str x =>
    have h' : xs = chV x := h
    subst h'
    obtain ⟨t, st⟩ := st
    have e : (chV x).length = x.cps.size := by unfold chV; rw [List.length_map]; simp
    rw [e]
    refine ⟨_, _, _, Draws.text hh it x t, st, fun j h' q => ⟨t, q⟩, fun j v q => ?_, by simp, fun c hcm => .inl (by simpa using hcm)⟩
    obtain ⟨c, u, hcx, rfl⟩ := q
    refine ⟨.str ⟨#[c]⟩, ?_, ⟨u, rfl⟩⟩
    unfold chV
    rw [List.getElem?_map, show (tl x)[j]? = some c by rw [← hcx]; exact Array.getElem?_toList]
    rfl
theorem Sr.begins {X : Cx} {pins : List (Addr × Obj)} {σ : L2.St} {H : Hp} {s : Shared} (I : Inv X pins σ H s) {sr : Sr} {xs : List V} {u : Value} (h : sr.its X.K H xs) (r : RelV sr.v u) :
    ∃ (o : Obj) (Hh : Heap → Prop), Begins u o Hh ∧ Hh s.heap ∧ (∀ h' it, h'.get? it = some o → sr.here h' it 0) ∧ ∀ it, s.heap.objs.size ≤ it → sr.far it := by
  cases sr with
  | lst a =>
    obtain ⟨its, rv, p, _⟩ := I.list h
    cases r
    refine ⟨_, _, begins_list a its.toArray, p.isList, fun h' it e => ⟨_, e, rfl, rfl⟩, fun it hle z => ?_⟩
    have lt := p.lt
    have e : a = it := V.ref.inj z
    rw [e] at lt
    exact absurd lt (Nat.not_lt.mpr hle)
  | tup a =>
    obtain ⟨its, rv, p, _⟩ := I.tuple h
    cases r
    obtain ⟨o1, ho1, _⟩ := id p
    refine ⟨_, _, begins_tuple a its.toArray, p, fun h' it e => ⟨_, e, rfl, rfl⟩, fun it hle z => ?_⟩
    have lt := Heap.lt_size ho1
    have e : a = it := V.ref.inj z
    rw [e] at lt
    exact absurd lt (Nat.not_lt.mpr hle)
  | str x =>
    obtain ⟨t, rfl⟩ := r
    exact ⟨_, _, begins_text x t, trivial, fun h' it e => ⟨t, _, e, rfl, rfl⟩, fun it hle z => nomatch z⟩
/-! ### two -/
structure Apart2 (z TI TO i1 i2 : Addr) (s1 s2 : Sr) : Prop where
  TIz : TI ≠ z
  TOz : TO ≠ z
  TITO : TI ≠ TO
  TIi1 : TI ≠ i1
  TIi2 : TI ≠ i2
  zi1 : z ≠ i1
  zi2 : z ≠ i2
  Ti1 : TO ≠ i1
  Ti2 : TO ≠ i2
  i12 : i1 ≠ i2
  f1 : s1.far z ∧ s1.far TO ∧ s1.far i1 ∧ s1.far i2
  f2 : s2.far z ∧ s2.far TO ∧ s2.far i1 ∧ s2.far i2
def ItzD (K : PySem.W.Frag) (s1 s2 : Sr) : It :=
  ⟨fun i H => ∃ (xs ys : List V) (x y : V), s1.its K H xs ∧ s2.its K H ys ∧ xs[i]? = some x ∧ ys[i]? = some y,
    fun i H v H' => ∃ T x y, v = .ref T ∧ H T = none ∧ H' = upd H T (.tup [x, y]) ∧ (∀ xs, s1.its K H xs → xs[i]? = some x) ∧ ∀ ys, s2.its K H ys → ys[i]? = some y,
    fun i H => ∃ xs ys : List V, s1.its K H xs ∧ s2.its K H ys ∧ i ≤ xs.length ∧ i ≤ ys.length ∧ (i = xs.length ∨ i = ys.length)⟩
theorem Apart2.sep {z TI TO i1 i2 : Addr} {s1 s2 : Sr} (D : Apart2 z TI TO i1 i2 s1 s2) {fp1 fp2 : List Addr} (m1 : i1 ∈ fp1) (c1 : ∀ c ∈ fp1, c = i1 ∨ s1.v = .ref c) (m2 : i2 ∈ fp2) (c2 : ∀ c ∈ fp2, c = i2 ∨ s2.v = .ref c) : ZipSep2 z TI TO i1 i2 fp1 fp2 where
  TIz := D.TIz
  TOz := D.TOz
  TITO := D.TITO
  TIi1 := D.TIi1
  mem1 := m1
  zf1 := fun h => (c1 _ h).elim D.zi1 D.f1.1
  Tf1 := fun h => (c1 _ h).elim D.Ti1 D.f1.2.1
  TIi2 := D.TIi2
  mem2 := m2
  zf2 := fun h => (c2 _ h).elim D.zi2 D.f2.1
  Tf2 := fun h => (c2 _ h).elim D.Ti2 D.f2.2.1
  sep1_2 := fun h => (c2 _ h).elim D.i12 D.f2.2.2.1
  sep2_1 := fun h => (c1 _ h).elim D.i12.symm D.f1.2.2.2
theorem turn_zipD {P : Program} {w : World} {K : PySem.W.Frag} {elts : List Expr} {kk : Nat} {tpos : Pos} {z TI TO i1 i2 : Addr} {s1 s2 : Sr} (D : Apart2 z TI TO i1 i2 s1 s2) :
    Turn P w K (.Tuple elts kk tpos) (ItzD K s1 s2) [z, TI, TO, i1, i2] z (fun i h => IsZip h z TI TO .none ∧ IsTupOf2 h TI (.ref i1) (.ref i2) ∧ (∃ x y, IsTupOf2 h TO x y) ∧ s1.here h i1 i ∧ s2.here h i2 i) where
  mem := by simp
  obj := fun i h st c hc => by
    obtain ⟨hz, hTI, ⟨x, y, hTO⟩, h1, h2⟩ := st
    have e' : c = z ∨ c = TI ∨ c = TO ∨ c = i1 ∨ c = i2 := by simpa using hc
    rcases e' with q | q | q | q | q
    · exact q ▸ ⟨_, hz, fun v q => nomatch q⟩
    · exact q ▸ ⟨_, hTI, fun v q => nomatch q⟩
    · exact q ▸ ⟨_, hTO, fun v q => nomatch q⟩
    · exact q ▸ Sr.live h1
    · exact q ▸ Sr.live h2
  keep := fun i h h' st k => by
    obtain ⟨hz, hTI, ⟨x, y, hTO⟩, h1, h2⟩ := st
    exact ⟨k z (by simp) _ hz, k TI (by simp) _ hTI, ⟨x, y, k TO (by simp) _ hTO⟩, Sr.keep h1 fun o q => k i1 (by simp) o q, Sr.keep h2 fun o q => k i2 (by simp) o q⟩
  item := by
    intro X hP hw hK hc i pins s σ H E I hf st hg
    subst hP hw hK
    obtain ⟨hz, hTI, ⟨x0, y0, hTO⟩, h1, h2⟩ := st
    obtain ⟨xs, ys, x, y, hqx, hqy, hx, hy⟩ := hg
    obtain ⟨fp1, P1, St1, D1, st1, b1, v1, m1, c1⟩ := Sr.draws I hc hqx D.f1.2.2.1 h1
    obtain ⟨fp2, P2, St2, D2, st2, b2, v2, m2, c2⟩ := Sr.draws I hc hqy D.f2.2.2.2 h2
    have hzl : z < s.heap.objs.size := Heap.lt_size hz
    refine wpAny_pyNext_zipD2_item (D.sep m1 c1 m2 c2) D1 D2 hz hTI hTO st1 st2 (List.getElem?_eq_some_iff.mp hx).1 (List.getElem?_eq_some_iff.mp hy).1 fun u1 u2 h' tk y1 y2 z' TO' st1' st2' hT hsz hk => ?_
    obtain ⟨x', ex, rx⟩ := v1 _ _ y1
    obtain ⟨y', ey, ry⟩ := v2 _ _ y2
    obtain rfl : x = x' := Option.some.inj (hx.symm.trans ex)
    obtain rfl : y = y' := Option.some.inj (hy.symm.trans ey)
    refine ⟨_, rfl, wpAny_letOwnedTupleGo_zip (s := { s with heap := h', toks := tk }) z' fun h'' z'' sb => ?_⟩
    have hT2 : h''.get? s.heap.objs.size = some { cls := .type "tuple", data := .seq #[u1, u2] } := (sb.2 _ (Nat.ne_of_gt hzl)).trans hT
    have new : ObjOk X.prog X.w (upd H s.heap.objs.size (.tup [x, y])) h'' s.heap.objs.size (.tup [x, y]) :=
      ⟨by show 2 ≤ sizeLine; decide, [u1, u2], .cons rx (.cons ry .nil), ⟨_, hT2, rfl, _, rfl⟩⟩
    have I1 : Inv X pins σ (upd H s.heap.objs.size (.tup [x, y])) { s with heap := h'', toks := tk } :=
      I.turnedNew (t' := tk) (ch := [z, TI, TO, i1, i2]) (fun c o hb q => (sb.2 c (fun q' => hb (by simp [q']))).trans (hk c o (fun q' => hb (by simp [q'])) (fun q' => hb (by simp [q'])) (fun q' => hb (by simp [q'])) (fun q' => hb (by simp [q'])) q)) hf (Nat.le_refl _) new
    refine ⟨.ref s.heap.objs.size, _, I1, rfl, ⟨_, x, y, rfl, I.hok.fresh (Nat.le_refl _), rfl, fun l hl => by rw [Sr.inj I hl hqx]; exact hx, fun l hl => by rw [Sr.inj I hl hqy]; exact hy⟩, ⟨z'', ?_, ⟨u1, u2, ?_⟩, ?_, ?_⟩, fun c hcm => ?_⟩
    · exact (sb.2 _ D.TIz).trans (hk _ _ D.TIz D.TITO D.TIi1 D.TIi2 hTI)
    · exact (sb.2 _ D.TOz).trans TO'
    · exact Sr.keep (b1 _ _ st1') fun o q => (sb.2 _ D.zi1.symm).trans q
    · exact Sr.keep (b2 _ _ st2') fun o q => (sb.2 _ D.zi2.symm).trans q
    · have hlt : c < s.heap.objs.size := by
        have e' : c = z ∨ c = TI ∨ c = TO ∨ c = i1 ∨ c = i2 := by simpa using hcm
        rcases e' with q | q | q | q | q
        · exact q ▸ hzl
        · exact q ▸ Heap.lt_size hTI
        · exact q ▸ Heap.lt_size hTO
        · obtain ⟨_, e1, _⟩ := Sr.live h1
          exact q ▸ Heap.lt_size e1
        · obtain ⟨_, e2, _⟩ := Sr.live h2
          exact q ▸ Heap.lt_size e2
      rw [upd_ne (Nat.ne_of_lt hlt)]
      exact (hf c hcm).1
  done := by
    intro X hP hw hK hc i pins s σ H E I hf st hg
    subst hP hw hK
    obtain ⟨hz, hTI, ⟨x0, y0, hTO⟩, h1, h2⟩ := st
    obtain ⟨xs, ys, hqx, hqy, le1, le2, hend⟩ := hg
    obtain ⟨fp1, P1, St1, D1, st1, b1, v1, m1, c1⟩ := Sr.draws I hc hqx D.f1.2.2.1 h1
    obtain ⟨fp2, P2, St2, D2, st2, b2, v2, m2, c2⟩ := Sr.draws I hc hqy D.f2.2.2.2 h2
    exact wpAny_pyNext_zipD2_end (D.sep m1 c1 m2 c2) D1 D2 hz hTI hTO st1 st2 le1 le2 hend fun h' tk hk => ⟨rfl, I.turnedL (t' := tk) (ch := [z, TI, TO, i1, i2]) (fun c o hb q =>
      hk c o (fun q' => hb (by simp [q'])) (fun q' => hb (by simp [q'])) (fun q' => hb (by simp [q'])) (fun q' => hb (by simp [q'])) q) hf⟩
  self := fun A i s Q E st h => wpAny_pyIter_zip st.1 h
def iZipD (K : PySem.W.Frag) (ta : TA) : TI := fun σ H R => ta σ H fun vs H1 => ∃ (s1 s2 : Sr) (xs ys : List V), vs = [s1.v, s2.v] ∧ s1.its K H1 xs ∧ s2.its K H1 ys ∧ R (ItzD K s1 s2) H1
theorem pi_zipD {X : Cx} {e e2 : Expr} {ta : TA} {p pos tpos : Pos} {elts : List Expr} {kk : Nat} (hg : Gl X "zip") (hm : X.mg "zip" = none) (ha : PA X [e, e2] ta)
    (hs : starEach [e, e2] X.env = (false, eval e X.env) :: starEach [e2] X.env := by rfl) (hpl : (backTo pos (starEach [e2] X.env)).any (·.1) = false := by rfl) :
    PI X (.Tuple elts kk tpos) (.Call (.Name "zip" p) [e, e2] [] pos) (iZipD X.K ta) := by
  refine ⟨fun pins s σ H R I h => ?_⟩
  refine Call_ (ld_blt I hg hm PyProof.Rows.boot_zip (PyProof.Rows.callWith_type1 (thn (ha.run pos pins s σ H _ I h) fun us s1 ⟨vs, H1, I1, r1, q1⟩ => ?_) hs hpl))
  obtain ⟨sa, sb, xs, ys, ex, hqx, hqy, q⟩ := q1
  subst ex
  cases r1 with
  | cons r rr =>
    cases rr with
    | cons r' rr =>
      cases rr
      obtain ⟨o1, Hh1, B1, hB1, w1, fa⟩ := Sr.begins I1 hqx r
      obtain ⟨o2, Hh2, B2, hB2, w2, fb⟩ := Sr.begins I1 hqy r'
      have fresh5 : ∀ c, c ∈ [s1.heap.objs.size + 4, s1.heap.objs.size + 2, s1.heap.objs.size + 3, s1.heap.objs.size, s1.heap.objs.size + 1] → FpOk X pins H1 c := fun c hcm => by
        have e' : c = s1.heap.objs.size + 4 ∨ c = s1.heap.objs.size + 2 ∨ c = s1.heap.objs.size + 3 ∨ c = s1.heap.objs.size ∨ c = s1.heap.objs.size + 1 := by simpa using hcm
        have hle : s1.heap.objs.size ≤ c := by
          rcases e' with z | z | z | z | z
          · rw [z]; exact Nat.le_add_right _ _
          · rw [z]; exact Nat.le_add_right _ _
          · rw [z]; exact Nat.le_add_right _ _
          · rw [z]; exact Nat.le_refl _
          · rw [z]; exact Nat.le_add_right _ _
        exact I1.fpOk hle (I1.hok.fresh hle)
      refine zip_begins2 B1 B2 hB1 hB2 fun h' hz hTI hTO h1 h2 hsz hk => wpAny_pyIter_zip hz ?_
      have I2 : Inv X pins σ H1 { s1 with heap := h' } := I1.kept (t' := s1.toks) hk
      have N : ∀ (m k : Nat), m ≠ k → s1.heap.objs.size + m ≠ s1.heap.objs.size + k := fun m k h e => h (Nat.add_left_cancel e)
      have F1 : ∀ m : Nat, sa.far (s1.heap.objs.size + m) := fun m => fa _ (Nat.le_add_right _ _)
      have F2 : ∀ m : Nat, sb.far (s1.heap.objs.size + m) := fun m => fb _ (Nat.le_add_right _ _)
      exact ⟨s1.heap.objs.size + 4, [s1.heap.objs.size + 4, s1.heap.objs.size + 2, s1.heap.objs.size + 3, s1.heap.objs.size, s1.heap.objs.size + 1], _, _, H1, rfl, I2,
        turn_zipD ⟨N 2 4 (by decide), N 3 4 (by decide), N 2 3 (by decide), N 2 0 (by decide), N 2 1 (by decide), N 4 0 (by decide), N 4 1 (by decide), N 3 0 (by decide), N 3 1 (by decide), N 0 1 (by decide), ⟨F1 4, F1 3, F1 0, F1 1⟩, ⟨F2 4, F2 3, F2 0, F2 1⟩⟩,
        ⟨hz, hTI, ⟨_, _, hTO⟩, w1 _ _ h1, w2 _ _ h2⟩, fresh5, q⟩
theorem walk_zipD {K : PySem.W.Frag} {s1 s2 : Sr} {xs ys : List V} {n : Nat} (hn : n = min xs.length ys.length) : Walk (ItzD K s1 s2) n (fun H => s1.its K H xs ∧ s2.its K H ys) (YPair (fun i => xs[i]?) (fun i => ys[i]?)) := by
  subst hn
  refine ⟨fun i _ hi q => ?_, fun _ q => ⟨xs, ys, q.1, q.2, by omega⟩, fun i H v H' _ q y => ?_⟩
  · have h1 : i < xs.length := by omega
    have h2 : i < ys.length := by omega
    exact ⟨xs, ys, xs[i], ys[i], q.1, q.2, by simp [h1], by simp [h2]⟩
  · obtain ⟨T, x, z, h1, h2, h3, h4, h5⟩ := y
    exact ⟨T, x, z, h1, h2, h3, h4 xs q.1, h5 ys q.2⟩
end Pw

set_option Elab.async false
set_option linter.all false
namespace Pw
open PySem PySem.Spec PyProof.Rows L2
/-- sum of a tuple of numbers -/
theorem cr_sumT {X : Cx} (hc : X.calm = true) : CallR X (.builtin "sum") (fun vs H Q => ∃ (a : Addr) (ns : List Int), vs = [V.ref a] ∧ SqT X.K H a (ns.map V.int) ∧ Q (.int ns.sum) H) := by
  intro pins s σ H vs us Q I r h
  obtain ⟨a, ns, rfl, hs, q⟩ := h
  obtain ⟨its, rv, hl, _⟩ := I.tuple hs
  rw [Vals.ref1 r]
  obtain ⟨xs, e⟩ := rv.ints.allInts.items
  have hn : numsOf (intItems xs).toList = ns := by rw [← e]; exact rv.ints.numsOf
  rw [nums_intItems] at hn
  have hl2 : s.heap.IsTuple a (intItems xs) := by
    rw [← e]
    obtain ⟨o, h1, h2, n, h3⟩ := hl
    exact ⟨o, h1, h2, n, h3⟩
  refine PySem.W.ktm_sumG (I.ok.hd hc) hl2 fun h' tk t' hk => ⟨.int _, H, I.kept hk, ⟨_, rfl⟩, ?_⟩
  rw [preSum_eq, List.take_of_length_le (by simp), hn]
  exact q
end Pw

set_option Elab.async false
set_option linter.all false
set_option maxRecDepth 100000
set_option maxHeartbeats 2000000
/-! g(e, lambda b: body): a lambda with one parameter, handed to a def of two that calls it -/
namespace Pw
open PySem PySem.Spec PyProof.Rows L2 LamX NdefX
section
variable {X : Cx} {pins : List (Addr × Obj)} {σ : L2.St} {H HZ : Hp} {s s1 : Shared}
abbrev lamF (X : Cx) (params : Arguments) (scope : Scope) (c' : Addr) : NF := ⟨"<lambda>", X.env.qual ++ "<lambda>", params, [], scope, cloFrom X.env.cells scope.names [], c'⟩
theorem cells_un {cl : List (Str × Addr)} {fr : List Str} {ws : List (Option V)} {fs : List Addr} (C : CellsAt cl fr ws s.heap H) (un : Un fs [] H HZ s.heap s1.heap) : CellsAt cl fr ws s1.heap HZ := by
  have kp : ∀ y c, cl.lookup y = some c → ∀ v, s.heap.IsCell c v → s1.heap.IsCell c v := fun y c e v ⟨o, ho, hd⟩ => by
    obtain ⟨sl, q⟩ := un.any ho (C.all y c e).1 (by simp)
    exact ⟨_, q, hd⟩
  refine ⟨C.len, fun y c e => ?_, C.inj, fun i y e => ?_⟩
  · obtain ⟨n, v, z⟩ := C.all y c e
    refine ⟨?_, v, kp y c e v z⟩
    obtain ⟨o, ho, _⟩ := z
    exact un.free c o ho n (by simp)
  · obtain ⟨c, hc, hv⟩ := C.has i y e
    refine ⟨c, hc, fun v ev => ?_⟩
    obtain ⟨u, r, z⟩ := hv v ev
    exact ⟨u, r, kp y c hc _ z⟩
/-- a(arg) in the def that got the lambda -/
theorem pe_actP {Ng : List Str} {qg : Str} {sg : Scope} {g f c' : Addr} {cdg pm ctv : Value} {params : Arguments} {body : Expr} {scope : Scope} {k i : Nat} {a b : Str} {N fr : List Str} {ws : List (Option V)} {tb ta : TE} {p1 p2 : Pos} {arg : Expr}
    (C : CellsAt (cloFrom X.env.cells scope.names []) fr ws s.heap H) (S : NScope N [b] fr scope) (hf : s.heap.get? f = some (PySem.W.kla_obj "<lambda>" (X.env.qual ++ "<lambda>") params body scope (cloFrom X.env.cells scope.names []) pm c' ctv)) (hfn : H f = none) (hfr : f ∉ frs X.stack)
    (hbind : ∀ u : Value, bindArgs (PySem.W.kla_fn "<lambda>" (X.env.qual ++ "<lambda>") params body scope (cloFrom X.env.cells scope.names []) pm (.ref c') ctv) ⟨[u], []⟩ = pure [(b, u)])
    (hr : Room (k + 1) (X.A.deeper (envOfC qg sg s.heap.objs.size g cdg)))
    (hbody : ∀ (A : Around) (outer : List Env) (s : Shared) (H : Hp), Room k (A.deeper (envF (lamF X params scope c') f s.heap.objs.size)) → PE (ncx C8.CX0 X.prog X.w X.K X.mg X.base N (lamF X params scope c') f A outer s H C8.E0) body tb)
    (hN : Ng[i]? = some a) (hv : Vis sg a) (ha : PE (cxOf C8.CX0 X.prog X.w X.K X.mg X.base Ng qg sg g cdg X.A X.stack s H C8.E0).nox arg ta)
    (he : ∀ env, starEach [arg] env = (false, eval arg env) :: starEach [] env)
    (hd : (a == ("__debug__" : Str)) = false := by decide) (hcd : (a == ("__classdict__" : Str)) = false := by decide) :
    PE (cxOf C8.CX0 X.prog X.w X.K X.mg X.base Ng qg sg g cdg X.A X.stack s H C8.E0).nox (.Call (.Name a p1) [arg] [] p2)
      (fun σZ HZ Q => σZ[i]? = some (some (.ref f)) ∧ ta σZ HZ fun v H1 => H1 c' = some (CodeO c' (X.env.qual ++ "<lambda>")) ∧ tb (startF N [v] ws) H1 Q) := by
  refine ⟨fun pZ sZ σZ HZ Q IZ h => ?_⟩
  obtain ⟨hs, ht⟩ := h
  refine wpAny_Call_Name_kw (thn ((pe_var (pos := p1) (i := i) hN hv hd hcd).run pZ sZ σZ HZ (fun v H1 => v = .ref f ∧ H1 = HZ) IZ ⟨.ref f, hs, rfl, rfl⟩) fun u s1 ⟨v, H1, I1, r1, q1⟩ => ?_)
  obtain ⟨ev, eH⟩ := q1
  subst ev
  rw [eH] at I1
  obtain rfl : u = Value.ref f := r1
  have at_ : ∀ {pp : List (Addr × Obj)} {σσ : L2.St} {HH : Hp} {ss : Shared}, Inv (cxOf C8.CX0 X.prog X.w X.K X.mg X.base Ng qg sg g cdg X.A X.stack s H C8.E0).nox pp σσ HH ss →
      ss.heap.get? f = some (PySem.W.kla_obj "<lambda>" (X.env.qual ++ "<lambda>") params body scope (cloFrom X.env.cells scope.names []) pm c' ctv) := fun J => J.base.keep f _ hf hfn hfr (fun z => nomatch (show f ∈ ([] : List Addr) from z))
  refine PySem.W.callWith_F (first := []) ⟨_, _, _, _, at_ I1⟩ (thn ((pa_cons ha pa_nil (hs := he _)).run p2 pZ s1 σZ HZ (fun vs H2 => match vs with | [v] => H2 c' = some (CodeO c' (X.env.qual ++ "<lambda>")) ∧ tb (startF N [v] ws) H2 Q | _ => False) I1 ?_) fun us s2 ⟨vs, H2, I2, r, qq⟩ => ⟨⟨_, _, _, _, at_ I2⟩, ?_⟩) (he _) (by rfl)
  · exact ht
  · obtain ⟨v, rfl⟩ : ∃ v, vs = [v] := by
      match vs, qq with
      | [v], _ => exact ⟨v, rfl⟩
    obtain ⟨hc, q⟩ := qq
    obtain ⟨u, rfl, rv⟩ := vals1 r
    show wpAny _ _ (call (.ref f) [u]) _ _ _
    have un2 : Un (frs X.stack) [] H H2 s.heap s2.heap := I2.base
    have C2 := cells_un C un2
    obtain ⟨⟨oc, vs, t, hoc, hdc, hvc⟩, _, _⟩ := I2.hok c' _ hc
    have rc : codeAny (model X.prog X.w) (X.A.deeper (envOfC qg sg s.heap.objs.size g cdg)) (.call (.ref f) ⟨[u], []⟩) (CR C8.CX0 (envOfC qg sg s.heap.objs.size g cdg :: X.stack) X.prog X.w H2 s2 Q C8.E0) s2 := by
      refine PySem.W.kla_callFunE hr.depth (at_ I2) rfl S.co S.gen rfl ⟨c', oc, vs, t, rfl, hoc, hdc, hvc⟩ ?_
      rw [hbind]
      refine wpAny_pure (wpAny_newFunctionEnv S.nocell (fun ⟨n, _⟩ hy => by
        have hy : (n, _) = (b, u) := List.mem_singleton.mp hy
        rw [show n = b from congrArg Prod.fst hy]
        exact S.par b (List.mem_singleton.mpr rfl)) (fun h₁ hns hsb => ⟨I2.nolimit.fresh _ hsb, ?_⟩) S.kind)
      show codeAny _ _ (.expr body (envF (lamF X params scope c') f s2.heap.objs.size)) _ _
      have kp : ∀ b o, s2.heap.get? b = some o → h₁.get? b = some o := fun b o e => hsb.extBut b o (Nat.ne_of_lt (Heap.lt_size e)) (Heap.get?_push_of_some _ e)
      have J : Inv (ncx C8.CX0 X.prog X.w X.K X.mg X.base N (lamF X params scope c') f (X.A.deeper (envOfC qg sg s.heap.objs.size g cdg)) (envOfC qg sg s.heap.objs.size g cdg :: X.stack) s2 H2 C8.E0) [] (startF N [v] ws) H2 { s2 with heap := h₁, toks := s2.toks + ([(b, u)] : List (Str × Value)).length } :=
        inv_startN (us := [u]) S hr.hd I2.env0 rfl r C2 hns kp
      refine PySem.W.kla_codeExpr (wpAny_mono ((hbody _ _ s2 H2 (hr.deeper _)).run [] _ _ H2 Q J q) (fun w' s' hq => ?_) fun e s' hq => hq)
      obtain ⟨w', G, J', rv, q⟩ := hq
      exact ⟨w', G, J'.os, J'.bare, J'.base, J'.hok, rv, q⟩
    refine wpAny_call (codeAny_mono rc fun r s' hq => ?_)
    cases r with
    | error e => exact False.elim (show False from hq)
    | ok fl =>
      cases fl with
      | ret u => exact I2.after hq
      | next => exact False.elim hq
      | brk => exact False.elim hq
      | cont => exact False.elim hq
end
/-- the def g(a0, a) that calls what it got -/
def GivesP (X : Cx) (Ng : List Str) (x : Str) (sg : Scope) (g : Addr) (cdg : Value) (bg : List Stmt) (a : Str) (q : Str) (TT : V → (V → Hp → VK → Prop) → Hp → VK → Prop) : Prop :=
  ∀ (f c' : Addr) (s : Shared) (H : Hp) (v0 : V) (Q : VK) (tl : V → Hp → VK → Prop) (k : Nat), Room k (X.A.deeper (envOfC x sg s.heap.objs.size g cdg)) →
    (∀ (p1 p2 : Pos) (arg : Expr) (ta : TE), (∀ env, starEach [arg] env = (false, eval arg env) :: starEach [] env) → PE (cxOf C8.CX0 X.prog X.w X.K X.mg X.base Ng x sg g cdg X.A X.stack s H C8.E0).nox arg ta →
      PE (cxOf C8.CX0 X.prog X.w X.K X.mg X.base Ng x sg g cdg X.A X.stack s H C8.E0).nox (.Call (.Name a p1) [arg] [] p2)
        (fun σZ HZ Q => σZ[1]? = some (some (.ref f)) ∧ ta σZ HZ fun v H1 => H1 c' = some (CodeO c' q) ∧ tl v H1 Q)) →
    H c' = some (CodeO c' q) → TT v0 tl H Q →
    ∃ t, PSs (cxOf C8.CX0 X.prog X.w X.K X.mg X.base Ng x sg g cdg X.A X.stack s H C8.E0).nox bg t ∧ t { nx := fun _ G => Q .non G, rt := Q } (L2.start Ng [v0, .ref f]) H
def tLamP (T : List (Addr × Str)) (TT : V → (V → Hp → VK → Prop) → Hp → VK → Prop) (N : List Str) (js : List Nat) (t0 t : TE) : TE := fun σ H Q => t0 σ H fun v0 H0 => Tabs T H0 ∧ ∀ H1, ExtN H0 H1 → Tabs T H1 → TT v0 (fun v G Q' => t (startF N [v] (js.map (slotAt σ))) G Q') H1 Q
section
variable {X : Cx}
/-- g(e, lambda b: body) -/
theorem pe_lamP {T : List (Addr × Str)} {TT : V → (V → Hp → VK → Prop) → Hp → VK → Prop} {x a0 a b : Str} {g c P : Addr} {k : Nat} {pg : Arguments} {bg : List Stmt} {sg : Scope} {dV kV doc pm cdv ct oc : Value} {an od : Option Addr} {osl : Array (Option Value)} {Ng N fr : List Str} {js : List Nat}
    {params : Arguments} {body e : Expr} {scope : Scope} {t t0 : TE} {p lpos pos : Pos} (hg : Gl X x) (hm : X.mg x = some (.ref g)) (hk : PySem.W.keepIn X.K (.ref g) = true)
    (lk : X.K.lookup g = some ⟨oc, od, .func (PySem.W.fnOf x x pg bg sg dV kV doc pm an cdv ct), osl⟩) (hcg : PySem.W.codeIn X.K cdv x = true) (hb : L2.Binds X.K (PySem.W.fnOf x x pg bg sg dV kV doc pm an cdv ct) [a0, a] []) (Sg : FnScope Ng [a0, a] sg) (hNg : Ng[1]? = some a) (hva : Vis sg a)
    (hG : GivesP X Ng x sg g cdv bg a (X.env.qual ++ "<lambda>") TT)
    (TB : TabB X.base X.mg c P) (hcode : X.env.code = .ref c) (hmT : (P, X.env.qual ++ "<lambda>") ∈ T) (hu : ∀ p ∈ T, p.1 = P → p.2 = X.env.qual ++ "<lambda>") (hr : Room (k + 2) X.A) (S : NScope N [b] fr scope)
    (hfree : ∀ y ∈ scope.names, y.2 = .free → X.env.scope.names.lookup y.1 = some .cell ∨ X.env.scope.names.lookup y.1 = some .free) (hfr : ∀ y ∈ fr, (y, NameKind.free) ∈ scope.names) (hjs : js.map (fun j => X.N[j]?) = fr.map some)
    (hdef : defaultsOf params X.env = ([], []))
    (hbind : ∀ (q : Str) (cl : List (Str × Addr)) (pm cv ctv u : Value), bindArgs (PySem.W.kla_fn "<lambda>" q params body scope cl pm cv ctv) ⟨[u], []⟩ = pure [(b, u)])
    (h0 : PE X e t0) (he : starEach [e, .Lambda params body scope lpos] X.env = (false, eval e X.env) :: starEach [.Lambda params body scope lpos] X.env)
    (hbody : ∀ (A : Around) (outer : List Env) (s : Shared) (H : Hp) (f c' : Addr), Room k (A.deeper (envF (lamF X params scope c') f s.heap.objs.size)) → PE (ncx C8.CX0 X.prog X.w X.K X.mg X.base N (lamF X params scope c') f A outer s H C8.E0) body t)
    (hdb : (x == ("__debug__" : Str)) = false := by decide) (hd : (a == ("__debug__" : Str)) = false := by decide) (hcd : (a == ("__classdict__" : Str)) = false := by decide) :
    PE X (.Call (.Name x p) [e, .Lambda params body scope lpos] [] pos) (tLamP T TT N js t0 t) := by
  refine ⟨fun pns s τ G Q I h => ?_⟩
  refine wpAny_Call_Name_kw (ld_glob I hg hm (PySem.W.callWith_K (h₀ := X.base) I.ok.mod.kin hk ?_ he (by rfl)) hdb)
  rw [he]
  show wpAny _ _ (spliced ((false, eval e X.env) :: (false, eval (.Lambda params body scope lpos) X.env) :: backTo pos (starEach [] X.env))) _ _ s
  refine Calls.spliced_cons (thn (h0.run pns s τ G _ I h) fun u0 s0 ⟨v0, H0, I0, r0, hT, h⟩ => ?_)
  have hfr2 : ∀ y ∈ scope.names, y.2 = .free → ∃ c, X.env.cells.lookup y.1 = some c := fun y hy e => (hfree y hy e).elim (fun z => I0.ok.has _ (.inl z)) fun z => I0.ok.has _ (.inr z)
  refine Calls.spliced_cons (lam_make2 I0 TB hcode hmT hu hT hdef hfr2 fun f c' pm' ctv H1 s' I1 eN T1 hf hfn hfrs hco => Calls.spliced_nil ⟨I1.kIn, ?_⟩)
  have rc : codeAny (model X.prog X.w) X.A (.call (.ref g) ⟨[u0, .ref f], []⟩) (CR C8.CX0 X.stack X.prog X.w H1 s' Q C8.E0) s' := by
    refine run_ofS (N := Ng) (ps := [a0, a]) (us := [u0, .ref f]) (vs := [v0, .ref f]) lk hcg Sg hr I1.env0 (hb s' [u0, .ref f] I1.kIn rfl) (.cons r0 (.cons rfl .nil)) rfl fun hr' => ?_
    have C := cells_of I1 (Caps.made I1.ok hfree hfr hjs)
    obtain ⟨t', ht', hq'⟩ := hG f c' s' H1 v0 Q (fun v G' Q' => t (startF N [v] (js.map (slotAt τ))) G' Q') (k + 1) hr' (fun p1 p2 arg ta hs hta => pe_actP (i := 1) C S hf hfn hfrs (fun u => hbind _ _ _ _ _ u) hr' (fun A outer s H hr2 => hbody A outer s H f c' hr2) hNg hva hta hs hd hcd) hco (h H1 eN T1)
    exact ⟨t', ht'.nox, hq'⟩
  refine wpAny_call (codeAny_mono rc fun r s2 hq => ?_)
  cases r with
  | error e => exact (show False from hq).elim
  | ok fl =>
    cases fl with
    | ret u => exact I1.after hq
    | next => exact False.elim hq
    | brk => exact False.elim hq
    | cont => exact False.elim hq
end
end Pw

set_option Elab.async false
set_option linter.all false
set_option maxRecDepth 100000
set_option maxHeartbeats 2000000
/-! g(e, lambda b: body), where the body holds the parameter in a cell (a comprehension in it reads it) -/
namespace Pw
open PySem PySem.Spec PyProof.Rows L2 LamX NdefX
structure CScope (N : List Str) (b : Str) (fr : List Str) (sc : Scope) : Prop where
  kind : sc.kind = .function
  co : sc.isCoroutine = false
  gen : sc.isGenerator = false
  nd : N.Nodup
  pre : N.take (1 + fr.length) = b :: fr
  par : sc.names.lookup b = some .cell
  one : ∀ y ∈ sc.names, y.2 = .cell → y.1 = b
  free : ∀ y ∈ sc.names, y.2 = .free → y.1 ∈ fr
  frk : ∀ x ∈ fr, sc.names.lookup x = some .free
  cf : ∀ (n : Nat) (cl : List (Str × Addr)), cellsFrom n sc.names cl = (b, n) :: cl
  pc : ∀ h : Heap, pushCells h sc.names = h.push { cls := .type "cell", data := .cell none }
theorem env_one {M : Model} {A : Around} {E : Value → Shared → Prop} {s : Shared} {N fr : List Str} {b : Str} {scope : Scope} {globals : Addr} {cl : List (Str × Addr)} {u : Value} {qual : Str} {func : Option Addr} {code : Value} {builtins : Addr} {Q : Env → Shared → Prop} (S : CScope N b fr scope)
    (hQ : ∀ h₁ tk, (∀ bb o, s.heap.get? bb = some o → h₁.get? bb = some o) → h₁.Ns s.heap.objs.size (fun _ => none) → h₁.IsCell (s.heap.objs.size + 1) (some u) → Q (newEnv scope s.heap.objs.size globals ((b, s.heap.objs.size + 1) :: cl) qual func code none builtins) { s with heap := h₁, toks := tk }) :
    wpAny M A (newFunctionEnv scope globals cl [(b, u)] qual func code none builtins) Q E s := by
  simp only [newFunctionEnv, Option.isSome_none, Bool.false_eq_true, if_false]
  refine wpAny_bind (wpAny_alloc (wpAny_bind (wpAny_layCells _ (fun name kind cells => by cases hkc : kind == NameKind.cell <;> simp [hkc]) _ _ _ _ ?_)))
  have e1 : (s.heap.push { cls := .type "frame", data := .dict #[] }).objs.size = s.heap.objs.size + 1 := Heap.size_push ..
  rw [S.cf, S.pc]
  have e2 : ({ s with heap := s.heap.push { cls := .type "frame", data := .dict #[] } } : Shared).heap.objs.size = s.heap.objs.size + 1 := e1
  rw [e2]
  rw [List.forIn_cons]
  have hcell : ((s.heap.push { cls := .type "frame", data := .dict #[] }).push { cls := .type "cell", data := .cell none }).IsCell (s.heap.objs.size + 1) none := by
    rw [← e1]
    exact ⟨_, Heap.get?_push_size _ rfl, rfl⟩
  have hns : ((s.heap.push { cls := .type "frame", data := .dict #[] }).push { cls := .type "cell", data := .cell none }).Ns s.heap.objs.size (fun _ => none) := (Heap.Ns.new s.heap (.type "frame")).push _
  refine wpAny_bind (wpAny_bind (wpAny_bind (wpAny_storeName_cell (env := newEnv scope s.heap.objs.size globals ((b, s.heap.objs.size + 1) :: cl) qual func code none builtins) S.kind S.par (by show List.lookup b ((b, _) :: cl) = _; rw [List.lookup_cons, beq_self_eq_true]) hcell fun h' hc' hs' => wpAny_pure ?_)))
  refine wpAny_pure (wpAny_pure (hQ h' s.toks (fun bb o e => ?_) (hns.sameBut hs' (Nat.ne_of_lt (Nat.lt_succ_self _))) hc'))
  exact hs'.extBut bb o (Nat.ne_of_lt (Nat.lt_succ_of_lt (Heap.lt_size e))) (Heap.get?_push_of_some _ (Heap.get?_push_of_some _ e))
section
variable {CX : CXT} {P : Program} {w : World} {K : PySem.W.Frag} {mg : Str → Option Value} {base : Heap} {N fr : List Str} {b : Str} {F : NF} {f : Addr} {A : Around} {outer : List Env} {s : Shared} {H : Hp} {E : XK} {u : Value} {v : V} {ws : List (Option V)} {cl : List (Str × Addr)}
theorem inv_startC {h₁ : Heap} {tk : Nat} (S : CScope N b fr F.scope) (hd : A.handled = none) (e0 : Env0 P w K mg base A outer s H) (rv : L2.RelV v u) (C : CellsAt cl fr ws s.heap H) (hF : F.cl = (b, s.heap.objs.size + 1) :: cl) (hns : h₁.Ns s.heap.objs.size fun _ => none)
    (hc : h₁.IsCell (s.heap.objs.size + 1) (some u)) (kp : ∀ b o, s.heap.get? b = some o → h₁.get? b = some o) : Inv (ncx CX P w K mg base N F f A outer s H E) [] (startF N [v] ws) H { s with heap := h₁, toks := tk } := by
  have noex : ∀ c : Addr, c ∉ (ncx CX P w K mg base N F f A outer s H E).ex := fun c z => nomatch (show c ∈ ([] : List Addr) from z)
  have cellK : ∀ {c : Addr} {x : Option Value}, s.heap.IsCell c x → h₁.IsCell c x := fun ⟨o, h1, h2⟩ => ⟨o, kp _ _ h1, h2⟩
  have bfr : b ∉ fr := fun z => by
    have := S.frk b z
    rw [S.par] at this
    cases this
  have old : ∀ y c, y ≠ b → F.cl.lookup y = some c → cl.lookup y = some c := fun y c ne e => by
    rw [hF, List.lookup_cons, beq_false_of_ne ne] at e
    exact e
  have atb : F.cl.lookup b = some (s.heap.objs.size + 1) := by
    rw [hF, List.lookup_cons, beq_self_eq_true]
  have low : ∀ y c, cl.lookup y = some c → c < s.heap.objs.size := fun y c e => by
    obtain ⟨_, x, o, h1, _⟩ := C.all y c e
    exact Heap.lt_size h1
  have inj : ∀ y z c, F.cl.lookup y = some c → F.cl.lookup z = some c → y = z := fun y z c e1 e2 => by
    by_cases hy : y = b
    · by_cases hz : z = b
      · rw [hy, hz]
      · have h1 : (c : Nat) < s.heap.objs.size := low z c (old z c hz e2)
        rw [hy, atb] at e1
        have h2 : s.heap.objs.size + 1 = (c : Nat) := Option.some.inj e1
        exact absurd h1 (by rw [← h2]; exact Nat.not_lt_of_lt (Nat.lt_succ_self _))
    · have h1 := old y c hy e1
      by_cases hz : z = b
      · have h3 : (c : Nat) < s.heap.objs.size := low y c h1
        rw [hz, atb] at e2
        have h2 : s.heap.objs.size + 1 = (c : Nat) := Option.some.inj e2
        exact absurd h3 (by rw [← h2]; exact Nat.not_lt_of_lt (Nat.lt_succ_self _))
      · exact C.inj y z c h1 (old z c hz e2)
  have len : 1 + fr.length ≤ N.length := by
    have q := congrArg List.length S.pre
    rw [List.length_take, List.length_cons] at q
    omega
  refine ⟨⟨e0.mod, S.kind, rfl, rfl, Nat.le_refl _, inj, fun y hy => ?_, (fun y c z _ => nomatch (show false = true from z)), fun _ => hd, Around.frames_deeper e0.frames, .inr ⟨rfl, rfl⟩,
      (fun c z => absurd z (noex c)), e0.bs, e0.bsz, (fun c _ _ => noex c), (fun c z => absurd z (noex c)), e0.funs, e0.frf⟩,
    rfl, e0.bare, Un.kept kp, ⟨_, hns, fun i y x e1 e2 e3 => ?_⟩, fun y c e => ?_, e0.hok.fresh (Nat.le_refl _), fun y c e => ?_, (fun q hq => nomatch (show q ∈ ([] : List (Addr × Obj)) from hq)), e0.hok.kept kp, ?_⟩
  · by_cases hb : y = b
    · exact ⟨_, by rw [hb]; exact atb⟩
    · have hy : F.scope.names.lookup y = some .cell ∨ F.scope.names.lookup y = some .free := hy
      rcases hy with hy | hy
      · exact absurd (S.one _ (PySem.mem_of_lookup hy) rfl) hb
      · obtain ⟨i, hi⟩ := List.mem_iff_getElem?.mp (S.free _ (PySem.mem_of_lookup hy) rfl)
        obtain ⟨c, hc, _⟩ := C.has i y hi
        refine ⟨c, ?_⟩
        show F.cl.lookup y = some c
        rw [hF, List.lookup_cons, beq_false_of_ne hb]
        exact hc
  · have e1 : N[i]? = some y := e1
    have clen := C.len
    have e2 : ((some v :: (ws ++ List.replicate (N.length - 1 - ws.length) none) : L2.St))[i]? = some (some x) := e2
    cases i with
    | zero =>
      have hy : (b :: fr)[0]? = some y := by
        rw [← S.pre, List.getElem?_take_of_lt (by omega)]
        exact e1
      obtain rfl : b = y := Option.some.inj hy
      have e2 : some (some v) = some (some x) := e2
      obtain rfl : v = x := Option.some.inj (Option.some.inj e2)
      exact ⟨u, rv, .inr ⟨.inl S.par, _, atb, hc⟩⟩
    | succ i =>
      have e2 : (ws ++ List.replicate (N.length - 1 - ws.length) none)[i]? = some (some x) := e2
      by_cases hi : i < ws.length
      · rw [List.getElem?_append_left hi] at e2
        have hy : (b :: fr)[i + 1]? = some y := by
          rw [← S.pre, List.getElem?_take_of_lt (by omega)]
          exact e1
        have hy : fr[i]? = some y := hy
        have ym := List.mem_of_getElem? hy
        obtain ⟨c, hc2, hv⟩ := C.has i y hy
        obtain ⟨u2, ru, hu⟩ := hv x e2
        refine ⟨u2, ru, .inr ⟨.inr (S.frk y ym), c, ?_, cellK hu⟩⟩
        show F.cl.lookup y = some c
        rw [hF, List.lookup_cons, beq_false_of_ne (show y ≠ b from fun z => bfr (by rw [← z]; exact ym))]
        exact hc2
      · rw [List.getElem?_append_right (by omega), List.getElem?_replicate] at e2
        split at e2 <;> cases e2
  · by_cases hb : y = b
    · rw [hb] at e
      have e : F.cl.lookup b = some c := e
      rw [atb] at e
      rw [← Option.some.inj e]
      exact ⟨_, hc⟩
    · obtain ⟨x, z⟩ := (C.all y c (old y c hb e)).2
      exact ⟨x, cellK z⟩
  · by_cases hb : y = b
    · rw [hb] at e
      have e : F.cl.lookup b = some c := e
      rw [atb] at e
      rw [← Option.some.inj e]
      exact e0.hok.fresh (Nat.le_succ _)
    · exact (C.all y c (old y c hb e)).1
  · have clen := C.len
    show (some v :: (ws ++ List.replicate (N.length - 1 - ws.length) none) : L2.St).length = N.length
    rw [List.length_cons, List.length_append, List.length_replicate]
    omega
end
abbrev lamFC (X : Cx) (params : Arguments) (scope : Scope) (c' : Addr) (b : Str) (L : Nat) : NF := ⟨"<lambda>", X.env.qual ++ "<lambda>", params, [], scope, (b, L + 1) :: cloFrom X.env.cells scope.names [], c'⟩
section
variable {X : Cx} {pins : List (Addr × Obj)} {σ : L2.St} {H HZ : Hp} {s s1 : Shared}
/-- a(arg) in the def that got the lambda -/
theorem pe_actC {Ng : List Str} {qg : Str} {sg : Scope} {g f c' : Addr} {cdg pm ctv : Value} {params : Arguments} {body : Expr} {scope : Scope} {k i : Nat} {a b : Str} {N fr : List Str} {ws : List (Option V)} {tb ta : TE} {p1 p2 : Pos} {arg : Expr}
    (C : CellsAt (cloFrom X.env.cells scope.names []) fr ws s.heap H) (S : CScope N b fr scope) (hf : s.heap.get? f = some (PySem.W.kla_obj "<lambda>" (X.env.qual ++ "<lambda>") params body scope (cloFrom X.env.cells scope.names []) pm c' ctv)) (hfn : H f = none) (hfr : f ∉ frs X.stack)
    (hbind : ∀ u : Value, bindArgs (PySem.W.kla_fn "<lambda>" (X.env.qual ++ "<lambda>") params body scope (cloFrom X.env.cells scope.names []) pm (.ref c') ctv) ⟨[u], []⟩ = pure [(b, u)])
    (hr : Room (k + 1) (X.A.deeper (envOfC qg sg s.heap.objs.size g cdg)))
    (hbody : ∀ (A : Around) (outer : List Env) (s : Shared) (H : Hp), Room k (A.deeper (envF (lamFC X params scope c' b s.heap.objs.size) f s.heap.objs.size)) → PE (ncx C8.CX0 X.prog X.w X.K X.mg X.base N (lamFC X params scope c' b s.heap.objs.size) f A outer s H C8.E0) body tb)
    (hN : Ng[i]? = some a) (hv : Vis sg a) (ha : PE (cxOf C8.CX0 X.prog X.w X.K X.mg X.base Ng qg sg g cdg X.A X.stack s H C8.E0).nox arg ta)
    (he : ∀ env, starEach [arg] env = (false, eval arg env) :: starEach [] env)
    (hd : (a == ("__debug__" : Str)) = false := by decide) (hcd : (a == ("__classdict__" : Str)) = false := by decide) :
    PE (cxOf C8.CX0 X.prog X.w X.K X.mg X.base Ng qg sg g cdg X.A X.stack s H C8.E0).nox (.Call (.Name a p1) [arg] [] p2)
      (fun σZ HZ Q => σZ[i]? = some (some (.ref f)) ∧ ta σZ HZ fun v H1 => H1 c' = some (CodeO c' (X.env.qual ++ "<lambda>")) ∧ tb (startF N [v] ws) H1 Q) := by
  refine ⟨fun pZ sZ σZ HZ Q IZ h => ?_⟩
  obtain ⟨hs, ht⟩ := h
  refine wpAny_Call_Name_kw (thn ((pe_var (pos := p1) (i := i) hN hv hd hcd).run pZ sZ σZ HZ (fun v H1 => v = .ref f ∧ H1 = HZ) IZ ⟨.ref f, hs, rfl, rfl⟩) fun u s1 ⟨v, H1, I1, r1, q1⟩ => ?_)
  obtain ⟨ev, eH⟩ := q1
  subst ev
  rw [eH] at I1
  obtain rfl : u = Value.ref f := r1
  have at_ : ∀ {pp : List (Addr × Obj)} {σσ : L2.St} {HH : Hp} {ss : Shared}, Inv (cxOf C8.CX0 X.prog X.w X.K X.mg X.base Ng qg sg g cdg X.A X.stack s H C8.E0).nox pp σσ HH ss →
      ss.heap.get? f = some (PySem.W.kla_obj "<lambda>" (X.env.qual ++ "<lambda>") params body scope (cloFrom X.env.cells scope.names []) pm c' ctv) := fun J => J.base.keep f _ hf hfn hfr (fun z => nomatch (show f ∈ ([] : List Addr) from z))
  refine PySem.W.callWith_F (first := []) ⟨_, _, _, _, at_ I1⟩ (thn ((pa_cons ha pa_nil (hs := he _)).run p2 pZ s1 σZ HZ (fun vs H2 => match vs with | [v] => H2 c' = some (CodeO c' (X.env.qual ++ "<lambda>")) ∧ tb (startF N [v] ws) H2 Q | _ => False) I1 ?_) fun us s2 ⟨vs, H2, I2, r, qq⟩ => ⟨⟨_, _, _, _, at_ I2⟩, ?_⟩) (he _) (by rfl)
  · exact ht
  · obtain ⟨v, rfl⟩ : ∃ v, vs = [v] := by
      match vs, qq with
      | [v], _ => exact ⟨v, rfl⟩
    obtain ⟨hc, q⟩ := qq
    obtain ⟨u, rfl, rv⟩ := vals1 r
    show wpAny _ _ (call (.ref f) [u]) _ _ _
    have un2 : Un (frs X.stack) [] H H2 s.heap s2.heap := I2.base
    have C2 := cells_un C un2
    obtain ⟨⟨oc, vs, t, hoc, hdc, hvc⟩, _, _⟩ := I2.hok c' _ hc
    have rc : codeAny (model X.prog X.w) (X.A.deeper (envOfC qg sg s.heap.objs.size g cdg)) (.call (.ref f) ⟨[u], []⟩) (CR C8.CX0 (envOfC qg sg s.heap.objs.size g cdg :: X.stack) X.prog X.w H2 s2 Q C8.E0) s2 := by
      refine PySem.W.kla_callFunE hr.depth (at_ I2) rfl S.co S.gen rfl ⟨c', oc, vs, t, rfl, hoc, hdc, hvc⟩ ?_
      rw [hbind]
      refine wpAny_pure (env_one S fun h₁ tk kp hns hcl => ⟨I2.nolimit.keeps kp, ?_⟩)
      show codeAny _ _ (.expr body (envF (lamFC X params scope c' b s2.heap.objs.size) f s2.heap.objs.size)) _ _
      have J : Inv (ncx C8.CX0 X.prog X.w X.K X.mg X.base N (lamFC X params scope c' b s2.heap.objs.size) f (X.A.deeper (envOfC qg sg s.heap.objs.size g cdg)) (envOfC qg sg s.heap.objs.size g cdg :: X.stack) s2 H2 C8.E0) [] (startF N [v] ws) H2 { s2 with heap := h₁, toks := tk } :=
        inv_startC S hr.hd I2.env0 rv C2 rfl hns hcl kp
      refine PySem.W.kla_codeExpr (wpAny_mono ((hbody _ _ s2 H2 (hr.deeper _)).run [] _ _ H2 Q J q) (fun w' s' hq => ?_) fun e s' hq => hq)
      obtain ⟨w', G, J', rv, q⟩ := hq
      exact ⟨w', G, J'.os, J'.bare, J'.base, J'.hok, rv, q⟩
    refine wpAny_call (codeAny_mono rc fun r s' hq => ?_)
    cases r with
    | error e => exact False.elim (show False from hq)
    | ok fl =>
      cases fl with
      | ret u => exact I2.after hq
      | next => exact False.elim hq
      | brk => exact False.elim hq
      | cont => exact False.elim hq
end
section
variable {X : Cx}
/-- g(e, lambda b: body) -/
theorem pe_lamC {T : List (Addr × Str)} {TT : V → (V → Hp → VK → Prop) → Hp → VK → Prop} {x a0 a b : Str} {g c P : Addr} {k : Nat} {pg : Arguments} {bg : List Stmt} {sg : Scope} {dV kV doc pm cdv ct oc : Value} {an od : Option Addr} {osl : Array (Option Value)} {Ng N fr : List Str} {js : List Nat}
    {params : Arguments} {body e : Expr} {scope : Scope} {t t0 : TE} {p lpos pos : Pos} (hg : Gl X x) (hm : X.mg x = some (.ref g)) (hk : PySem.W.keepIn X.K (.ref g) = true)
    (lk : X.K.lookup g = some ⟨oc, od, .func (PySem.W.fnOf x x pg bg sg dV kV doc pm an cdv ct), osl⟩) (hcg : PySem.W.codeIn X.K cdv x = true) (hb : L2.Binds X.K (PySem.W.fnOf x x pg bg sg dV kV doc pm an cdv ct) [a0, a] []) (Sg : FnScope Ng [a0, a] sg) (hNg : Ng[1]? = some a) (hva : Vis sg a)
    (hG : GivesP X Ng x sg g cdv bg a (X.env.qual ++ "<lambda>") TT)
    (TB : TabB X.base X.mg c P) (hcode : X.env.code = .ref c) (hmT : (P, X.env.qual ++ "<lambda>") ∈ T) (hu : ∀ p ∈ T, p.1 = P → p.2 = X.env.qual ++ "<lambda>") (hr : Room (k + 2) X.A) (S : CScope N b fr scope)
    (hfree : ∀ y ∈ scope.names, y.2 = .free → X.env.scope.names.lookup y.1 = some .cell ∨ X.env.scope.names.lookup y.1 = some .free) (hfr : ∀ y ∈ fr, (y, NameKind.free) ∈ scope.names) (hjs : js.map (fun j => X.N[j]?) = fr.map some)
    (hdef : defaultsOf params X.env = ([], []))
    (hbind : ∀ (q : Str) (cl : List (Str × Addr)) (pm cv ctv u : Value), bindArgs (PySem.W.kla_fn "<lambda>" q params body scope cl pm cv ctv) ⟨[u], []⟩ = pure [(b, u)])
    (h0 : PE X e t0) (he : starEach [e, .Lambda params body scope lpos] X.env = (false, eval e X.env) :: starEach [.Lambda params body scope lpos] X.env)
    (hbody : ∀ (A : Around) (outer : List Env) (s : Shared) (H : Hp) (f c' : Addr), Room k (A.deeper (envF (lamFC X params scope c' b s.heap.objs.size) f s.heap.objs.size)) → PE (ncx C8.CX0 X.prog X.w X.K X.mg X.base N (lamFC X params scope c' b s.heap.objs.size) f A outer s H C8.E0) body t)
    (hdb : (x == ("__debug__" : Str)) = false := by decide) (hd : (a == ("__debug__" : Str)) = false := by decide) (hcd : (a == ("__classdict__" : Str)) = false := by decide) :
    PE X (.Call (.Name x p) [e, .Lambda params body scope lpos] [] pos) (tLamP T TT N js t0 t) := by
  refine ⟨fun pns s τ G Q I h => ?_⟩
  refine wpAny_Call_Name_kw (ld_glob I hg hm (PySem.W.callWith_K (h₀ := X.base) I.ok.mod.kin hk ?_ he (by rfl)) hdb)
  rw [he]
  show wpAny _ _ (spliced ((false, eval e X.env) :: (false, eval (.Lambda params body scope lpos) X.env) :: backTo pos (starEach [] X.env))) _ _ s
  refine Calls.spliced_cons (thn (h0.run pns s τ G _ I h) fun u0 s0 ⟨v0, H0, I0, r0, hT, h⟩ => ?_)
  have hfr2 : ∀ y ∈ scope.names, y.2 = .free → ∃ c, X.env.cells.lookup y.1 = some c := fun y hy e => (hfree y hy e).elim (fun z => I0.ok.has _ (.inl z)) fun z => I0.ok.has _ (.inr z)
  refine Calls.spliced_cons (lam_make2 I0 TB hcode hmT hu hT hdef hfr2 fun f c' pm' ctv H1 s' I1 eN T1 hf hfn hfrs hco => Calls.spliced_nil ⟨I1.kIn, ?_⟩)
  have rc : codeAny (model X.prog X.w) X.A (.call (.ref g) ⟨[u0, .ref f], []⟩) (CR C8.CX0 X.stack X.prog X.w H1 s' Q C8.E0) s' := by
    refine run_ofS (N := Ng) (ps := [a0, a]) (us := [u0, .ref f]) (vs := [v0, .ref f]) lk hcg Sg hr I1.env0 (hb s' [u0, .ref f] I1.kIn rfl) (.cons r0 (.cons rfl .nil)) rfl fun hr' => ?_
    have C := cells_of I1 (Caps.made I1.ok hfree hfr hjs)
    obtain ⟨t', ht', hq'⟩ := hG f c' s' H1 v0 Q (fun v G' Q' => t (startF N [v] (js.map (slotAt τ))) G' Q') (k + 1) hr' (fun p1 p2 arg ta hs hta => pe_actC (i := 1) C S hf hfn hfrs (fun u => hbind _ _ _ _ _ u) hr' (fun A outer s H hr2 => hbody A outer s H f c' hr2) hNg hva hta hs hd hcd) hco (h H1 eN T1)
    exact ⟨t', ht'.nox, hq'⟩
  refine wpAny_call (codeAny_mono rc fun r s2 hq => ?_)
  cases r with
  | error e => exact (show False from hq).elim
  | ok fl =>
    cases fl with
    | ret u => exact I1.after hq
    | next => exact False.elim hq
    | brk => exact False.elim hq
    | cont => exact False.elim hq
end
end Pw

set_option Elab.async false
set_option linter.all false
/-! kinds of what lives, numbered by first appearance among them -/
namespace Pw
theorem cut_some {W : Gr} : ∃ n, cutG (cutN W n) = cutN W n := by
  have gen : ∀ m n, goals (cutN W n) ≤ m → ∃ k, cutG (cutN W k) = cutN W k := by
    intro m
    induction m with
    | zero =>
      intro n h
      have g := goals_cut (cutN W n)
      exact ⟨n, g.2 (by have := g.1; omega)⟩
    | succ m ih =>
      intro n h
      have g := goals_cut (cutN W n)
      by_cases e : goals (cutG (cutN W n)) = goals (cutN W n)
      · exact ⟨n, g.2 e⟩
      · refine ih (n + 1) ?_
        show goals (cutG (cutN W n)) ≤ m
        have := g.1
        omega
  exact gen _ 0 (Nat.le_refl _)
theorem cut_has {W : Gr} (hc : Closed W) : ∃ C, IsCut W C := let ⟨n, h⟩ := cut_some (W := W); ⟨_, isCut_of hc h⟩
section
variable {K : Type} [DecidableEq K]
def ddG (al : Nat → Bool) (f : Nat → K) : Nat → List K
  | 0 => []
  | n + 1 => if al n = true then (if f n ∈ ddG al f n then ddG al f n else ddG al f n ++ [f n]) else ddG al f n
theorem ddG_old {al : Nat → Bool} {f : Nat → K} {n : Nat} (a : al n = true) (h : f n ∈ ddG al f n) : ddG al f (n + 1) = ddG al f n := by
  show (if al n = true then (if f n ∈ ddG al f n then ddG al f n else ddG al f n ++ [f n]) else ddG al f n) = _
  rw [if_pos a, if_pos h]
theorem ddG_new {al : Nat → Bool} {f : Nat → K} {n : Nat} (a : al n = true) (h : f n ∉ ddG al f n) : ddG al f (n + 1) = ddG al f n ++ [f n] := by
  show (if al n = true then (if f n ∈ ddG al f n then ddG al f n else ddG al f n ++ [f n]) else ddG al f n) = _
  rw [if_pos a, if_neg h]
theorem ddG_pre (al : Nat → Bool) (f : Nat → K) : ∀ m n, ddG al f n <+: ddG al f (n + m)
  | 0, n => List.prefix_refl _
  | m + 1, n => by
    have ih := ddG_pre al f m n
    show _ <+: (if al (n + m) = true then (if f (n + m) ∈ ddG al f (n + m) then ddG al f (n + m) else ddG al f (n + m) ++ [f (n + m)]) else ddG al f (n + m))
    by_cases a : al (n + m) = true
    · rw [if_pos a]
      by_cases h : f (n + m) ∈ ddG al f (n + m)
      · rw [if_pos h]
        exact ih
      · rw [if_neg h]
        exact ih.trans (List.prefix_append _ _)
    · rw [if_neg a]
      exact ih
theorem ddG_in (al : Nat → Bool) (f : Nat → K) {n i : Nat} (hi : i < n) (a : al i = true) : f i ∈ ddG al f n := by
  have h1 : f i ∈ ddG al f (i + 1) := by
    show f i ∈ (if al i = true then (if f i ∈ ddG al f i then ddG al f i else ddG al f i ++ [f i]) else ddG al f i)
    rw [if_pos a]
    by_cases h : f i ∈ ddG al f i
    · rw [if_pos h]
      exact h
    · rw [if_neg h]
      exact List.mem_append_right _ (List.mem_singleton.mpr rfl)
  have := ddG_pre al f (n - (i + 1)) (i + 1)
  rw [show i + 1 + (n - (i + 1)) = n by omega] at this
  exact this.subset h1
theorem ddG_le (al : Nat → Bool) (f : Nat → K) : ∀ n, (ddG al f n).length ≤ n
  | 0 => Nat.le_refl _
  | n + 1 => by
    have ih := ddG_le al f n
    show (if al n = true then (if f n ∈ ddG al f n then ddG al f n else ddG al f n ++ [f n]) else ddG al f n).length ≤ n + 1
    by_cases a : al n = true
    · rw [if_pos a]
      by_cases h : f n ∈ ddG al f n
      · rw [if_pos h]
        omega
      · rw [if_neg h, List.length_append]
        show _ + 1 ≤ _
        omega
    · rw [if_neg a]
      omega
/-- the number of a living one -/
def nmbG (al : Nat → Bool) (f : Nat → K) (N i : Nat) : Nat := posn (ddG al f N) (f i)
theorem nmbG_eq {al : Nat → Bool} {f : Nat → K} {N i j : Nat} (hi : i < N) (hj : j < N) (ai : al i = true) (aj : al j = true) : nmbG al f N i = nmbG al f N j ↔ f i = f j :=
  posn_inj (ddG_in al f hi ai) (ddG_in al f hj aj)
theorem nmbG_step {al : Nat → Bool} {f : Nat → K} {N i : Nat} (hi : i < N) (a : al i = true) : nmbG al f (N + 1) i = nmbG al f N i := posn_pre (ddG_pre al f 1 N) (ddG_in al f hi a)
end
/-- a place's number, or -1 -/
def kz : Option Nat → Int
  | none => -1
  | some n => (n : Nat)
theorem kz_inj {a b : Option Nat} (h : kz a = kz b) : a = b := by
  cases a with
  | none =>
    cases b with
    | none => rfl
    | some n =>
      have h : (-1 : Int) = (n : Nat) := h
      omega
  | some m =>
    cases b with
    | none =>
      have h : ((m : Nat) : Int) = -1 := h
      omega
    | some n =>
      have h : ((m : Nat) : Int) = (n : Nat) := h
      rw [show m = n by omega]
def kdI (al : Nat → Bool) (f : Nat → Nat) (i : Nat) : Int := if al i = true then (f i : Nat) else -1
/-- what the kinds of the goals tell -/
theorem kd_goal {W C : Gr} (hcut : IsCut W C) {al : Nat → Bool} {f : Nat → Nat} (hal : ∀ i, i < W.length → (al i = true ↔ Lives W i)) (hc : Closed W) (i : Nat) (c : Bool) : (match goG W i c with | none => (-1 : Int) | some g => kdI al f g) = kz ((goG C i c).map f) := by
  cases e : goG W i c with
  | none =>
    have : goG C i c = none := by
      cases e2 : goG C i c with
      | none => rfl
      | some g =>
        have := ((hcut.go i c g).mp e2).1
        rw [e] at this
        cases this
    rw [this]
    rfl
  | some g =>
    have hg := hc i c g e
    show kdI al f g = _
    unfold kdI
    by_cases a : al g = true
    · rw [if_pos a, (hcut.go i c g).mpr ⟨e, (hal g hg).mp a⟩]
      rfl
    · rw [if_neg a]
      have : goG C i c = none := by
        cases e2 : goG C i c with
        | none => rfl
        | some g' =>
          obtain ⟨h1, h2⟩ := (hcut.go i c g').mp e2
          rw [e] at h1
          obtain rfl := Option.some.inj h1
          exact absurd ((hal g hg).mpr h2) a
      rw [this]
      rfl
abbrev K3 := Nat × Option Nat × Option Nat
def k3 (C : Gr) (f : Nat → Nat) (i : Nat) : K3 := (f i, (goG C i false).map f, (goG C i true).map f)
theorem parts_k3 {A : Nat → Prop} {C : Gr} (cl : ∀ i c g, A i → goG C i c = some g → A g) {n : Nat} {f : Nat → Nat} (h : Parts A C n f) : Parts A C (n + 1) (k3 C f) := fun i j hi hj => by
  have h1 := parts_next cl h i j hi hj
  constructor
  · intro e
    exact h1.mp (congrArg Prod.snd e)
  · intro s
    exact Prod.ext ((h i j hi hj).mpr (same_le (Nat.le_succ n) s)) (h1.mpr s)
theorem parts_kind {W C : Gr} (hcut : IsCut W C) (hc : Closed W) {al : Nat → Bool} (hal : ∀ i, i < W.length → (al i = true ↔ Lives W i)) {n : Nat} {f : Nat → Nat} (h : Parts (fun i => i < W.length ∧ al i = true) C n f) : Parts (fun i => i < W.length ∧ al i = true) C (n + 1) (nmbG al (k3 C f) W.length) := fun i j hi hj => by
  rw [nmbG_eq hi.1 hj.1 hi.2 hj.2]
  refine parts_k3 (fun i c g _ e => ?_) h i j hi hj
  obtain ⟨h1, h2⟩ := (hcut.go i c g).mp e
  have := hc i c g h1
  exact ⟨this, (hal g this).mpr h2⟩
theorem ddG_nd {K : Type} [DecidableEq K] (al : Nat → Bool) (f : Nat → K) : ∀ n, (ddG al f n).Nodup
  | 0 => List.nodup_nil
  | n + 1 => by
    have ih := ddG_nd al f n
    by_cases a : al n = true
    · by_cases h : f n ∈ ddG al f n
      · rw [ddG_old a h]
        exact ih
      · rw [ddG_new a h, List.nodup_append]
        refine ⟨ih, List.nodup_cons.mpr ⟨(fun z => nomatch z), List.nodup_nil⟩, fun x hx c hc e => ?_⟩
        rw [List.mem_singleton.mp hc] at e
        exact h (e ▸ hx)
    · have : ddG al f (n + 1) = ddG al f n := if_neg a
      rw [this]
      exact ih
theorem cut_goal {W C : Gr} (hcut : IsCut W C) {al : Nat → Bool} (hal : ∀ i, i < W.length → (al i = true ↔ Lives W i)) (hc : Closed W) (i : Nat) (c : Bool) : ((goG W i c).bind fun g => if al g = true then some g else none) = goG C i c := by
  cases e : goG W i c with
  | none =>
    cases e2 : goG C i c with
    | none => rfl
    | some g =>
      have := ((hcut.go i c g).mp e2).1
      rw [e] at this
      cases this
  | some g =>
    have hg := hc i c g e
    show (if al g = true then some g else none) = _
    by_cases a : al g = true
    · rw [if_pos a, (hcut.go i c g).mpr ⟨e, (hal g hg).mp a⟩]
    · rw [if_neg a]
      cases e2 : goG C i c with
      | none => rfl
      | some g' =>
        obtain ⟨h1, h2⟩ := (hcut.go i c g').mp e2
        rw [e] at h1
        obtain rfl := Option.some.inj h1
        exact absurd ((hal g hg).mpr h2) a
/-- the first ones of each kind, so far -/
structure HeadsTo (al : Nat → Bool) (f : Nat → Nat) (i : Nat) (hs : List Nat) : Prop where
  kinds : hs.map f = ddG al f i
  inc : hs.Pairwise (· < ·)
  ok : ∀ h ∈ hs, h < i ∧ al h = true
  first : ∀ g, g < i → al g = true → ∃ h ∈ hs, f h = f g ∧ h ≤ g
theorem HeadsTo.zero (al : Nat → Bool) (f : Nat → Nat) : HeadsTo al f 0 [] := ⟨rfl, .nil, (fun h z => nomatch z), fun g hg => absurd hg (Nat.not_lt_zero _)⟩
theorem HeadsTo.skip {al : Nat → Bool} {f : Nat → Nat} {i : Nat} {hs : List Nat} (h : HeadsTo al f i hs) (k : al i = true → f i ∈ ddG al f i) : HeadsTo al f (i + 1) hs := by
  refine ⟨?_, h.inc, fun x hx => ⟨Nat.lt_succ_of_lt (h.ok x hx).1, (h.ok x hx).2⟩, fun g hg a => ?_⟩
  · rw [h.kinds]
    by_cases a : al i = true
    · rw [ddG_old a (k a)]
    · exact (if_neg a).symm
  · rcases Nat.lt_succ_iff_lt_or_eq.mp hg with z | z
    · exact h.first g z a
    · subst z
      have := k a
      rw [← h.kinds] at this
      obtain ⟨x, hx, e⟩ := List.mem_map.mp this
      exact ⟨x, hx, e, Nat.le_of_lt (h.ok x hx).1⟩
theorem HeadsTo.new {al : Nat → Bool} {f : Nat → Nat} {i : Nat} {hs : List Nat} (h : HeadsTo al f i hs) (a : al i = true) (k : f i ∉ ddG al f i) : HeadsTo al f (i + 1) (hs ++ [i]) := by
  refine ⟨?_, ?_, fun x hx => ?_, fun g hg ag => ?_⟩
  · rw [List.map_append, h.kinds, ddG_new a k]
    rfl
  · rw [List.pairwise_append]
    refine ⟨h.inc, List.pairwise_singleton _ _, fun x hx y hy => ?_⟩
    rw [List.mem_singleton.mp hy]
    exact (h.ok x hx).1
  · rcases List.mem_append.mp hx with z | z
    · exact ⟨Nat.lt_succ_of_lt (h.ok x z).1, (h.ok x z).2⟩
    · rw [List.mem_singleton.mp z]
      exact ⟨Nat.lt_succ_self i, a⟩
  · rcases Nat.lt_succ_iff_lt_or_eq.mp hg with z | z
    · obtain ⟨x, hx, e, le⟩ := h.first g z ag
      exact ⟨x, List.mem_append_left _ hx, e, le⟩
    · subst z
      exact ⟨g, List.mem_append_right _ (List.mem_singleton.mpr rfl), rfl, Nat.le_refl _⟩
theorem heads_of {W C : Gr} {al : Nat → Bool} {f : Nat → Nat} {hs : List Nat} (hal : ∀ i, i < W.length → (al i = true ↔ Lives W i)) (h0 : 0 < W.length) (a0 : al 0 = true) (hf : ∀ i j, i < W.length → al i = true → j < W.length → al j = true → (f i = f j ↔ Same C i j)) (h : HeadsTo al f W.length hs) :
    Heads W C hs.length (fun k => hs.getD k 0) (fun g => posn (ddG al f W.length) (f g)) := by
  have nd := ddG_nd al f W.length
  have ln : (ddG al f W.length).length = hs.length := by rw [← h.kinds, List.length_map]
  have gd : ∀ k, k < hs.length → hs[k]? = some (hs.getD k 0) := fun k hk => by rw [List.getD_eq_getElem?_getD, List.getElem?_eq_getElem hk]; rfl
  have kd : ∀ k, k < hs.length → (ddG al f W.length)[k]? = some (f (hs.getD k 0)) := fun k hk => by rw [← h.kinds, List.getElem?_map, gd k hk]; rfl
  have okk : ∀ k, k < hs.length → hs.getD k 0 < W.length ∧ al (hs.getD k 0) = true := fun k hk => h.ok _ (List.mem_of_getElem? (gd k hk))
  have back : ∀ k, k < hs.length → posn (ddG al f W.length) (f (hs.getD k 0)) = k := fun k hk => posn_eq nd (kd k hk)
  have lt : ∀ g, g < W.length → al g = true → posn (ddG al f W.length) (f g) < hs.length := fun g hg a => by
    have := posn_at (ddG_in al f hg a)
    rw [← ln]
    exact (List.getElem?_eq_some_iff.mp this).1
  have same : ∀ g, g < W.length → al g = true → f (hs.getD (posn (ddG al f W.length) (f g)) 0) = f g := fun g hg a => by
    have h1 := posn_at (ddG_in al f hg a)
    rw [kd _ (lt g hg a)] at h1
    exact Option.some.inj h1
  have inc : ∀ i j, i < j → j < hs.length → hs.getD i 0 < hs.getD j 0 := fun i j hij hj => by
    rw [List.getD_eq_getElem?_getD, List.getD_eq_getElem?_getD, List.getElem?_eq_getElem (by omega), List.getElem?_eq_getElem hj]
    exact List.pairwise_iff_getElem.mp h.inc i j (by omega) hj hij
  have le : ∀ g, g < W.length → al g = true → hs.getD (posn (ddG al f W.length) (f g)) 0 ≤ g := fun g hg a => by
    obtain ⟨x, hx, e, le⟩ := h.first g hg a
    obtain ⟨k, hk, ek⟩ := List.getElem_of_mem hx
    have e2 : hs.getD k 0 = x := by
      rw [List.getD_eq_getElem?_getD, List.getElem?_eq_getElem hk]
      exact ek
    have e3 := back k hk
    rw [e2, e] at e3
    show hs.getD (posn (ddG al f W.length) (f g)) 0 ≤ g
    rw [e3, e2]
    exact le
  have pos : 0 < hs.length := by
    have := lt 0 h0 a0
    omega
  refine ⟨pos, ?_, fun k hk => ⟨(okk k hk).1, (hal _ (okk k hk).1).mp (okk k hk).2⟩, inc, fun g hg l => lt g hg ((hal g hg).mpr l), fun g hg l => ?_, fun g hg l => le g hg ((hal g hg).mpr l), fun g x hg lg hx lx s => ?_, back⟩
  · have h1 := le 0 h0 a0
    by_cases z : posn (ddG al f W.length) (f 0) = 0
    · rw [z] at h1
      exact Nat.le_zero.mp h1
    · have := inc 0 _ (Nat.pos_of_ne_zero z) (lt 0 h0 a0)
      omega
  · have a := (hal g hg).mpr l
    have o := okk _ (lt g hg a)
    exact (hf _ g o.1 o.2 hg a).mp (same g hg a)
  · show posn _ (f g) = posn _ (f x)
    rw [(hf g x hg ((hal g hg).mpr lg) hx ((hal x hx).mpr lx)).mpr s]
end Pw

set_option Elab.async false
set_option linter.all false
set_option maxRecDepth 100000
set_option maxHeartbeats 4000000
namespace Pw
open PySem PySem.Spec PyProof.Rows L2
/-! sorted(set(xs)), xs a list of texts: the set with the order in which it is walked -/
def uniq : List Str → List Str → List Str
  | acc, [] => acc
  | acc, x :: r => uniq (if x ∈ acc then acc else acc ++ [x]) r
theorem uniq_snoc (x : Str) : ∀ (l acc : List Str), uniq acc (l ++ [x]) = if x ∈ uniq acc l then uniq acc l else uniq acc l ++ [x]
  | [], acc => rfl
  | y :: r, acc => uniq_snoc x r _
theorem uniq_nodup : ∀ (l acc : List Str), acc.Nodup → (uniq acc l).Nodup
  | [], acc, h => h
  | y :: r, acc, h => by
    refine uniq_nodup r _ ?_
    split
    · exact h
    · rename_i hn
      rw [List.nodup_append]
      exact ⟨h, List.pairwise_singleton _ y, fun a ha b hb z => hn (by rw [List.mem_singleton.mp hb] at z; exact z ▸ ha)⟩
theorem uniq_mem (x : Str) : ∀ (l acc : List Str), x ∈ uniq acc l ↔ x ∈ acc ∨ x ∈ l
  | [], acc => by simp [uniq]
  | y :: r, acc => by
    show x ∈ uniq _ r ↔ _
    rw [uniq_mem x r]
    split
    · rename_i hy
      constructor
      · rintro (h | h)
        · exact .inl h
        · exact .inr (List.mem_cons_of_mem _ h)
      · rintro (h | h)
        · exact .inl h
        · rcases List.mem_cons.mp h with rfl | h
          · exact .inl hy
          · exact .inr h
    · rw [List.mem_append, List.mem_singleton, List.mem_cons]
      exact or_assoc
theorem uniq_len : ∀ (l acc : List Str), (uniq acc l).length ≤ acc.length + l.length
  | [], acc => by simp [uniq]
  | y :: r, acc => by
    have := uniq_len r (if y ∈ acc then acc else acc ++ [y])
    show (uniq _ r).length ≤ _
    rw [List.length_cons]
    split at this
    · rename_i h
      rw [if_pos h]
      omega
    · rename_i h
      rw [if_neg h]
      rw [List.length_append, List.length_singleton] at this
      omega
def keyX (e : Int × Value) : Str := match e.2 with
  | .str k _ => k
  | _ => Str.empty
/-- the entries el and the table tb of a set with the texts ks -/
structure XE (P : Program) (w : World) (ks : List Str) (el : Array (Int × Value)) (tb : SetTable) : Prop where
  good : ∀ e ∈ el.toList, ∃ k tk, e.2 = Value.str k tk ∧ e.1 = (PySem.strKind P w).hash k
  keys : (el.toList.map keyX).Perm ks
  room : ks.length < scanBound
  fits : tb.fits el.size = true
  ris : Ris tb.place.toList
  led : w.params.followText "set-order" = true ∨ tb.led = true
def XSet (P : Program) (w : World) (h : Heap) (a : Addr) (ks : List Str) : Prop := ∃ ob el ev tb, h.get? a = some ob ∧ ob.ExactSet ∧ ob.data = .set el ev tb ∧ XE P w ks el tb
section
variable {P : Program} {w : World} {A : Around} {E : Value → Shared → Prop} {s : Shared} {a : Addr} {ks : List Str}
theorem XE.size {el : Array (Int × Value)} {tb : SetTable} (x : XE P w ks el tb) : el.size = ks.length := by
  rw [← x.keys.length_eq, List.length_map, Array.length_toList]
theorem XE.elems {el : Array (Int × Value)} {tb : SetTable} (x : XE P w ks el tb) : ElemsOf (PySem.strKind P w) el.toList := fun e he => by
  obtain ⟨k, tk, e1, e2⟩ := x.good e he
  refine ⟨⟨k, ?_, e2⟩, ?_⟩
  · rw [e1]
    exact strKind_is P w k tk
  · rw [e1]
    rfl
theorem XE.is {el : Array (Int × Value)} {tb : SetTable} (x : XE P w ks el tb) (k : Str) : k ∈ ks ↔ ∃ e ∈ el.toList, (PySem.strKind P w).is k e.2 = true := by
  rw [← x.keys.mem_iff, List.mem_map]
  have one : ∀ e ∈ el.toList, keyX e = k ↔ (PySem.strKind P w).is k e.2 = true := fun e he => by
    obtain ⟨k2, tk, e1, _⟩ := x.good e he
    unfold keyX
    rw [e1]
    show k2 = k ↔ (PySem.strKind P w).is k (.str k2 tk) = true
    simp [PySem.strKind, Value.isStrOf]
  exact ⟨fun ⟨e, he, q⟩ => ⟨e, he, (one e he).1 q⟩, fun ⟨e, he, q⟩ => ⟨e, he, (one e he).2 q⟩⟩
/-- laid anew where the table is too full -/
theorem xe_relay {el : Array (Int × Value)} {tb : SetTable} (x : XE P w ks el tb) (n : Nat) : XE P w ks (relayAll tb el n).1 (relayAll tb el n).2.1 where
  good := fun e he => x.good e ((relayAll_perm tb el n).mem_iff.mp he)
  keys := ((relayAll_perm tb el n).map keyX).trans x.keys
  room := x.room
  fits := relayAll_fits tb el n
  ris := relayAll_ris tb el n
  led := x.led.imp id fun z => by rw [relayAll_led]; exact z
theorem xe_new {el : Array (Int × Value)} {tb : SetTable} (x : XE P w ks el tb) (k : Str) (tk : Tok) (hb : ks.length + 1 < scanBound) :
    XE P w (ks ++ [k]) (layNew tb el ((PySem.strKind P w).hash k) (.str k tk)).1 (layNew tb el ((PySem.strKind P w).hash k) (.str k tk)).2.1 := by
  have pm := layNew_perm tb el ((PySem.strKind P w).hash k) (.str k tk)
  rw [Array.toList_push] at pm
  refine ⟨fun e he => ?_, ?_, ?_, layNew_fits tb el _ _, layNew_ris tb el _ _ x.ris, x.led.imp id fun z => by rw [layNew_led]; exact z⟩
  · rcases List.mem_append.mp (pm.mem_iff.mp he) with z | z
    · exact x.good e z
    · rw [List.mem_singleton.mp z]
      exact ⟨k, tk, rfl, rfl⟩
  · refine (pm.map keyX).trans ?_
    rw [List.map_append]
    exact x.keys.append_right _
  · rw [List.length_append, List.length_singleton]
    exact hb
theorem x_put {ob : Obj} {el e2 : Array (Int × Value)} {ev : Nat} {tb t2 : SetTable} {h : Heap} (h0 : h.get? a = some ob) (hx : ob.ExactSet) (h2 : ob.data = .set el ev tb) (x : XE P w ks e2 t2) : XSet P w (h.update a (Obj.putSet e2 t2)) a ks :=
  ⟨_, e2, _, t2, store_at h0 h2, hx, rfl, x⟩
theorem x_tail {gv : Bool → Sem Unit} (hgv : ∀ (b : Bool) (s₁ : Shared) (Q' : Unit → Shared → Prop), Q' () s₁ → wpAny (model P w) A (gv b) Q' E s₁)
    {ob : Obj} {el : Array (Int × Value)} {ev : Nat} {tb : SetTable} (h0 : s.heap.get? a = some ob) (hx : ob.ExactSet) (h2 : ob.data = .set el ev tb)
    {e1 : Array (Int × Value)} {t1 : SetTable} (x : XE P w ks e1 t1) {dm : Bool} {R : Option Bool → Shared → Prop}
    (hR : ∀ h', Heap.SameBut a s.heap h' → XSet P w h' a ks → R (some true) { s with heap := h' }) :
    wpAny (model P w) A (do
        storeSet a e1 t1
        if (!dm && t1.tooFull) = true then do
            gv (relayAll t1 e1 (SetTable.grown e1.size)).2.2
            storeSet a (relayAll t1 e1 (SetTable.grown e1.size)).1 (relayAll t1 e1 (SetTable.grown e1.size)).2.1
            pure (some true)
          else pure (some true)) R E s := by
  have z1 : e1.size < scanBound := by rw [x.size]; exact x.room
  have up1 := Heap.SameBut.update s.heap a (Obj.putSet e1 t1)
  refine wpAny_bind (wpAny_storeSet_of h0 h2 ?_ (fits_of_scanBound z1))
  split
  · have y := xe_relay x (SetTable.grown e1.size)
    generalize relayAll t1 e1 (SetTable.grown e1.size) = Z at y ⊢
    have z2 : Z.1.size < scanBound := by rw [y.size]; exact y.room
    have g1 := store_at (es' := e1) (t' := t1) h0 h2
    refine wpAny_bind (hgv _ _ _ (wpAny_bind (wpAny_storeSet_of g1 rfl (wpAny_pure (hR _ (up1.trans (Heap.SameBut.update _ a _)) (x_put g1 hx rfl y))) (fits_of_scanBound z2))))
  · exact wpAny_pure (hR _ up1 (x_put h0 hx h2 x))
theorem xe_plain {el : Array (Int × Value)} {tb : SetTable} (x : XE P w ks el tb) : XE P w ks el { tb with plain := false } := ⟨x.good, x.keys, x.room, SetTable.fits_plain_off x.fits, x.ris, x.led⟩
theorem x_add {k : Str} {tk : Tok} {Q : Bool → Shared → Prop} (X : XSet P w s.heap a ks) (hb : ks.length + 1 < scanBound)
    (hQ : ∀ h', Heap.SameBut a s.heap h' → XSet P w h' a (if k ∈ ks then ks else ks ++ [k]) → ∀ b, Q b { s with heap := h' }) :
    wpAny (model P w) A (setAddHashed a (.str k tk) ((PySem.strKind P w).hash k)) Q E s := by
  obtain ⟨ob, el, ev, tb, h0, hx, h2, x⟩ := X
  have is1 : (PySem.strKind P w).is k (.str k tk) = true := strKind_is P w k tk
  have z0 : el.size < scanBound := by rw [x.size]; exact x.room
  have sc1 : (Value.str k tk).scannable = true := rfl
  unfold setAddHashed setAddHashedIn
  refine wpAny_holding (wpAny_bind (wpAny_setState_of h0 h2 x.fits ?_))
  dsimp only
  rw [byScan_of sc1 z0 x.elems]
  simp only [↓reduceIte]
  unfold setAddByScan
  refine wpAny_bind (wpAny_bind (wpAny_rule (wpAny_bind (wpAny_setScan_of is1 h0 h2 x.fits x.elems ?_))))
  cases hfi : List.findIdx? (fun e => (PySem.strKind P w).is k e.2) el.toList with
  | some j =>
    obtain ⟨hj, pj, _⟩ := List.findIdx?_eq_some_iff_getElem.mp hfi
    have hin : k ∈ ks := (x.is k).2 ⟨el.toList[j], List.getElem_mem hj, pj⟩
    refine wpAny_pure (wpAny_pure (hQ s.heap (Heap.SameBut.refl a s.heap) ?_ _))
    rw [if_pos hin]
    exact ⟨ob, el, ev, tb, h0, hx, h2, x⟩
  | none =>
    have hin : k ∉ ks := fun z => by
      obtain ⟨e, he, q⟩ := (x.is k).1 z
      rw [List.findIdx?_eq_none_iff.mp hfi e he] at q
      cases q
    rw [if_neg hin] at hQ
    have y := xe_new x k tk hb
    have gw : ∀ (b : Bool) (s₁ : Shared) (Q' : Unit → Shared → Prop), Q' () s₁ → wpAny (model P w) A (match b with | true => rule "set.scan.the-table-gave-way" | false => pure ()) Q' E s₁ := fun b s₁ Q' q => by
      cases b
      · exact wpAny_pure q
      · exact wpAny_rule q
    dsimp only
    generalize layNew tb el ((PySem.strKind P w).hash k) (.str k tk) = Z at y ⊢
    obtain ⟨e1, t1, dm, gave⟩ := Z
    dsimp only at y ⊢
    refine wpAny_bind (gw _ _ _ ?_)
    split
    · refine wpAny_bind ?_
      rw [hashByValue_scannable 8 sc1]
      refine wpAny_pure ?_
      first
        | (split
           · exact x_tail gw h0 hx h2 y fun h' sb r => wpAny_pure (hQ h' sb r _)
           · exact x_tail gw h0 hx h2 (xe_plain y) fun h' sb r => wpAny_pure (hQ h' sb r _))
        | exact x_tail gw h0 hx h2 y fun h' sb r => wpAny_pure (hQ h' sb r _)
        | exact x_tail gw h0 hx h2 (xe_plain y) fun h' sb r => wpAny_pure (hQ h' sb r _)
    · refine wpAny_bind (wpAny_pure ?_)
      simp only [↓reduceIte]
      exact x_tail gw h0 hx h2 y fun h' sb r => wpAny_pure (hQ h' sb r _)
end
section
variable {prog : Program} {w : World} {A : Around} {R : Result → Shared → Prop} {I : Addr} {fp wr : List Addr} {G : Array GenState → Array GenState → Prop} {n : Nat} {P : Nat → Value → Prop} {St : Nat → Shared → Prop}
theorem XSet.at {P : Program} {h h' : Heap} {a : Addr} {ks : List Str} (x : XSet P w h a ks) (k : ∀ o, h.get? a = some o → h'.get? a = some o) : XSet P w h' a ks := let ⟨ob, el, ev, tb, h0, r⟩ := x; ⟨ob, el, ev, tb, k _ h0, r⟩
theorem x_loop (W : WalksS prog w A.in1 I fp wr G n P St) (S : Addr) (hSf : S ∉ fp) (xs : List Str) (hsz : xs.length = n) (hn : n ≤ 60) (hval : ∀ i v, P i v → ∃ t, v = .str (xs.getD i Str.empty) t) :
    ∀ (k i : Nat) (s : Shared), n - i = k → i ≤ n → St i s → XSet prog w s.heap S (uniq [] (xs.take i)) →
      (∀ s', Moved (S :: wr) G s s' → XSet prog w s'.heap S (uniq [] (xs.take n)) → R (.ok (.ret .none)) s') →
      codeAny (model prog w) A (.builtin "set.update.loop" ⟨[.ref S, .ref I], []⟩) R s := by
  have nSw : S ∉ wr := fun h => hSf (W.sub _ h)
  have inW : ∀ b ∈ wr, b ∈ S :: wr := fun b hb => List.mem_cons_of_mem _ hb
  intro k
  induction k with
  | zero =>
    intro i s hk hi hst hS hR
    obtain rfl : i = n := by omega
    refine codeAny_builtin PyProof.Rows.F.entry_set_update_loop ?_
    rw [Around.under_plainId PyProof.Rows.F.plain_set_update_loop _]
    show wpAny _ A.in1 (pyNext (.ref I) >>= _) _ _ s
    refine wpAny_bind (W.done s _ _ hst fun s' hm => ?_)
    show wpAny _ A.in1 (ret Value.none) _ _ s'
    exact wpAny_pure (hR s' (hm.mono inW) (hS.at fun o ho => hm.heap S _ nSw ho))
  | succ k ih =>
    intro i s hk hi hst hS hR
    have hlt : i < n := by omega
    have hix : i < xs.length := by omega
    refine codeAny_builtin PyProof.Rows.F.entry_set_update_loop ?_
    rw [Around.under_plainId PyProof.Rows.F.plain_set_update_loop _]
    show wpAny _ A.in1 (pyNext (.ref I) >>= _) _ _ s
    refine wpAny_bind (W.item i s _ _ hlt hst fun v s' hP hst' hm => ?_)
    obtain ⟨t, rfl⟩ := hval i v hP
    have eget : xs.getD i Str.empty = xs[i] := by simp [List.getD, hix]
    rw [eget]
    have hS' : XSet prog w s'.heap S (uniq [] (xs.take i)) := hS.at fun o ho => hm.heap S _ nSw ho
    have hroom : (uniq [] (xs.take i)).length + 1 < scanBound := by
      have := uniq_len (xs.take i) []
      rw [List.length_take] at this
      unfold scanBound
      simp only [List.length_nil] at this
      omega
    show wpAny _ A.in1 (holding [Value.str xs[i] t] (setAdd S (.str xs[i] t)) >>= _) _ _ s'
    refine wpAny_bind (wpAny_holding ?_)
    unfold setAdd
    refine wpAny_holding ?_
    refine wpAny_bind ((PySem.strKind prog w).pyHash (k := xs[i]) (strKind_is _ _ _ _) ?_)
    refine x_add (s := { s' with toks := s'.toks + 1 }) hS' hroom fun h' hsb hS2 _ => ?_
    have etake : xs.take (i + 1) = xs.take i ++ [xs[i]] := by
      rw [List.take_add_one, List.getElem?_eq_getElem hix]
      rfl
    rw [← uniq_snoc, ← etake] at hS2
    refine wpAny_pure ⟨plainId_quiet PyProof.Rows.F.plain_set_update_loop _, ih (i + 1) _ (by omega) hlt (W.frame _ s' _ _ hst' (Nat.le_succ _) fun b hb o e => ?_) hS2 fun s'' hm'' hS'' => ?_⟩
    · rw [hsb.2 b (fun z : b = S => hSf (by rw [← z]; exact hb))]
      exact e
    · refine hR s'' (Moved.trans W.gtrans ((hm.mono inW).then_heap (Nat.le_succ _) fun b o hb e => ?_) hm'') hS''
      rw [hsb.2 b (fun z : b = S => hb (by rw [z]; exact List.mem_cons_self))]
      exact e
end
section
variable {prog : Program} {w : World} {A : Around} {E : Value → Shared → Prop} {s : Shared}
theorem x_made (v : Value) {Q₁ : Value → Shared → Prop} (h : Q₁ (.ref s.heap.objs.size) { s with heap := s.heap.push (set0 (!w.params.followText "set-order")) }) :
    codeAny (model prog w) A (.call (.builtin "set.__new__") ⟨[.type "set", v], []⟩) (wants Q₁ E) s := by
  refine codeAny_of_tree ?_
  show wpAny _ A.in1 (checkBuiltinCall "set.__new__" ⟨[.type "set", v], []⟩ >>= fun _ => again (.builtin "set.__new__" ⟨[.type "set", v], []⟩)) _ _ s
  refine wpAny_bind (wpAny_of_eq (PySem.F.newCall_set_1 v) (wpAny_pure ⟨plainId_quiet PySem.F.plain_set_new _, codeAny_builtin PySem.F.entry_set_new ?_⟩))
  rw [Around.under_plainId PySem.F.plain_set_new _]
  have hsub := sub_set_self
  obtain ⟨hp, g, d, tk, os⟩ := s
  unfold Builtin.«set.__new__» Builtin.Frozenset.newClass
  dsimp only
  wp_walk
  refine wpAny_askSetting (wpAny_pure ?_)
  simp only [newObj]
  exact wpAny_bind (wpAny_alloc (wpAny_pure (wpAny_pure h)))
theorem x_fresh {h : Heap} : XSet prog w (h.push (set0 (!w.params.followText "set-order"))) h.objs.size [] :=
  ⟨_, #[], 0, _, Heap.get?_push_size _ rfl, ⟨rfl, rfl, rfl⟩, rfl, ⟨fun e he => absurd he (by simp), List.Perm.refl _, by decide, by rfl, List.Pairwise.nil, by
    show _ ∨ (!w.params.followText "set-order") = true
    cases w.params.followText "set-order" <;> simp⟩⟩
/-- set(x), with its order -/
theorem xset_by {x : Addr} {xs : List Str} {n : Nat} {Q : Value → Shared → Prop}
    (hinit : ∀ (R : Fin → Shared → Prop) (E' : Value → Shared → Prop), (∀ (h' : Heap) (tk : Nat), XSet prog w h' s.heap.objs.size (uniq [] (xs.take n)) → (∀ b o, b < s.heap.objs.size → s.heap.get? b = some o → h'.get? b = some o) → R (.done (.ret .none)) { s with heap := h', toks := tk }) →
      wpAny (model prog w) A.in1.in1 (Builtin.«set.__init__» ⟨[.ref s.heap.objs.size, .ref x], []⟩) R E' { s with heap := s.heap.push (set0 (!w.params.followText "set-order")) })
    (h : ∀ (h' : Heap) (tk : Nat), XSet prog w h' s.heap.objs.size (uniq [] (xs.take n)) → (∀ b o, b < s.heap.objs.size → s.heap.get? b = some o → h'.get? b = some o) → Q (.ref s.heap.objs.size) { s with heap := h', toks := tk }) :
    wpAny (model prog w) A (call (.type "set") [.ref x]) Q E s := by
  obtain ⟨c, tl, hmro⟩ := PySem.F.called_set.mro
  have hmade := PySem.F.called_set.made
  have hsub := PySem.F.called_set.sub
  refine wpAny_call (codeAny_of_tree ?_)
  show wpAny _ _ (callAny (.type "set") _) _ _ _
  refine wpAny_pure ⟨Code.quiet_builtin _ (by decide +kernel), codeAny_builtin PySem.F.entry_type_call ?_⟩
  rw [Around.under_plain (weight_type_call_type "set" [.ref x] []) rfl]
  have h1 := PySem.F.called_set.notType
  have h2 := PySem.F.called_set.canCreate
  have hct := PySem.F.typeCall_set_1 (.ref x)
  repeat (any_goals (first | assumption | wp_step))
  refine codeAny_mono (x_made (.ref x) (E := E) (Q₁ := fun obj s₁ => obj = .ref s.heap.objs.size ∧ s₁ = { s with heap := s.heap.push (set0 (!w.params.followText "set-order")) }) ⟨rfl, rfl⟩) fun r s₁ hr => ?_
  cases r with
  | error e => exact hr
  | ok fl =>
    cases fl with
    | ret obj =>
      obtain ⟨rfl, rfl⟩ := hr
      have hS : (s.heap.push (set0 (!w.params.followText "set-order"))).get? s.heap.objs.size = some (set0 (!w.params.followText "set-order")) := Heap.get?_push_size _ rfl
      have hT : Shared.TypeIs { s with heap := s.heap.push (set0 (!w.params.followText "set-order")) } (.ref s.heap.objs.size) "set" := ⟨_, hS, rfl⟩
      have hli := PySem.F.called_set.init.lookup
      have hbi := PySem.F.called_set.init.bind (.ref s.heap.objs.size)
      repeat (any_goals (first | assumption | wp_step))
      refine codeAny_mono (codeAny_call_builtin (R := wants (fun r s₂ => r = .none ∧ ∃ h' tk, s₂ = { s with heap := h', toks := tk } ∧ XSet prog w h' s.heap.objs.size (uniq [] (xs.take n)) ∧
          (∀ b o, b < s.heap.objs.size → s.heap.get? b = some o → h'.get? b = some o)) E) PySem.F.called_set.init.plain PySem.F.entry_set_init (check_set_init_1 hT ?_)) fun r₂ s₂ hr₂ => ?_
      · exact hinit _ _ fun h' tk a b => ⟨rfl, h', tk, rfl, a, b⟩
      · cases r₂ with
        | error e => exact hr₂
        | ok fl₂ =>
          cases fl₂ with
          | ret r =>
            obtain ⟨rfl, h', tk, rfl, hS', hk'⟩ := hr₂
            repeat (any_goals (first | assumption | wp_step))
            exact h _ _ hS' hk'
          | _ => exact hr₂.elim
    | _ => exact hr.elim
theorem xset_list {x : Addr} {items : Array Value} {xs : List Str} {Q : Value → Shared → Prop} (hh : A.handled = none) (hl : s.heap.IsList x items) (hi : PyProof.Rows.StrsAre items.toList xs) (hn : xs.length ≤ 60)
    (h : ∀ (h' : Heap) (tk : Nat), XSet prog w h' s.heap.objs.size (uniq [] (xs.take items.size)) → (∀ b o, b < s.heap.objs.size → s.heap.get? b = some o → h'.get? b = some o) → Q (.ref s.heap.objs.size) { s with heap := h', toks := tk }) :
    wpAny (model prog w) A (call (.type "set") [.ref x]) Q E s := by
  refine xset_by (n := items.size) (fun R E' hR => ?_) h
  obtain ⟨⟨ocls, odict, odata, oslots⟩, hol, hcl, nl, hdl⟩ := hl
  simp only at hcl hdl
  subst hcl
  subst hdl
  have hS : (s.heap.push (set0 (!w.params.followText "set-order"))).get? s.heap.objs.size = some (set0 (!w.params.followText "set-order")) := Heap.get?_push_size _ rfl
  have hol' : (s.heap.push (set0 (!w.params.followText "set-order"))).get? x = some { cls := .type "list", dict := odict, data := .seq items nl, slots := oslots } := Heap.get?_push_of_some _ hol
  have hsls := PySem.F.sub_list_set
  have hslf := PySem.F.sub_list_frozenset
  have hne : (Value.type "list" == Value.type "dict") = false := by decide
  have hl1 : (s.heap.push (set0 (!w.params.followText "set-order"))).IsList x items := ⟨_, hol', rfl, nl, rfl⟩
  unfold Builtin.«set.__init__» noKeywords Builtin.Frozenset.updateFrom
  generalize hPI : pyIter = PI
  wp_walk
  subst hPI
  refine wpAny_pyIter_list hl1 (wpAny_bind (wpAny_runValue ?_))
  have hlS : x < s.heap.objs.size := Heap.lt_size hol
  have hh3 : A.in1.in1.in1.handled = none := by simp [hh]
  have hneI : x ≠ (s.heap.push (set0 (!w.params.followText "set-order"))).objs.size := by
    rw [Heap.size_push]
    exact Nat.ne_of_lt (Nat.lt_succ_of_lt hlS)
  have hSf : s.heap.objs.size ∉ [(s.heap.push (set0 (!w.params.followText "set-order"))).objs.size, x] := by
    rw [Heap.size_push]
    simp only [List.mem_cons, List.mem_singleton, List.not_mem_nil, or_false, not_or]
    exact ⟨Nat.ne_of_lt (Nat.lt_succ_self _), Nat.ne_of_gt hlS⟩
  have hsz : xs.length = items.size := by rw [← StrsAre.len_eq hi, Array.length_toList]
  have hval : ∀ (i : Nat) (v : Value), items[i]? = some v → ∃ t, v = .str (xs.getD i Str.empty) t := fun i v hv => SS.strs_at hi i v (by rw [Array.getElem?_toList]; exact hv)
  refine x_loop ((Walks.list hh3 _ x hneI items).toS) s.heap.objs.size hSf xs hsz (by rw [← hsz]; exact hn) hval (items.size - 0) 0 _ (by omega) (Nat.zero_le _) ⟨⟨_, Heap.get?_push_size _ rfl, rfl, rfl⟩, (hl1.push _)⟩ ?hS0 ?hR
  case hS0 =>
    have hget : ((s.heap.push (set0 (!w.params.followText "set-order"))).push { cls := .type "list_iterator", data := .fields #[.ref x, .int 0 0] }).get? s.heap.objs.size = some (set0 (!w.params.followText "set-order")) := Heap.get?_push_of_some _ hS
    exact x_fresh.at fun o e => Heap.get?_push_of_some _ e
  case hR =>
    intro s' hm hS'
    obtain ⟨h', g', d', tk', os'⟩ := s'
    obtain rfl : g' = s.gens := hm.gens
    obtain rfl : d' = s.drawn := hm.drawn
    obtain rfl : os' = s.os := hm.os
    show wpAny _ _ _ _ _ _
    refine wpAny_pure ?_
    show wpAny _ _ (ret Value.none) _ _ _
    refine wpAny_pure (hR h' tk' hS' fun b o hb e => ?_)
    have hb1 : b ≠ s.heap.objs.size := Nat.ne_of_lt hb
    have hb2 : b ≠ (s.heap.push (set0 (!w.params.followText "set-order"))).objs.size := by
      rw [Heap.size_push]
      exact Nat.ne_of_lt (Nat.lt_succ_of_lt hb)
    exact hm.heap b o (by simp only [List.mem_cons, List.mem_singleton, List.not_mem_nil, or_false, not_or]; exact ⟨hb1, hb2⟩) (Heap.get?_push_of_some _ (Heap.get?_push_of_some _ e))
theorem strs_of : ∀ (l : List Value), (∀ v ∈ l, ∃ k tk, v = Value.str k tk) → StrsAre l (l.map fun v => keyX (0, v))
  | [], _ => .nil
  | v :: l, h => by
    obtain ⟨k, tk, rfl⟩ := h v List.mem_cons_self
    exact .cons k tk (strs_of l fun u hu => h u (List.mem_cons_of_mem _ hu))
theorem sorted_x {a : Addr} {ks : List Str} {Q : Value → Shared → Prop} (R : XSet prog w s.heap a ks) (hh : A.handled = none) (h64 : ks.length < 64)
    (hQ : ∀ s' p (out : Array Value) (c : Nat) (ys : List Str), (∀ b o, s.heap.get? b = some o → s'.heap.get? b = some o) → s'.gens = s.gens → s'.os = s.os → s.heap.objs.size ≤ p →
      s'.heap.get? p = some (seqObj "list" out c) → StrsAre out.toList ys → ys.Perm ks → sortedS ys = true → Q (.ref p) s') :
    wpAny (model prog w) A (call (.builtin "sorted") [.ref a]) Q E s := by
  obtain ⟨ob, el, ev, tb, h0, hx, h2, x⟩ := R
  have z0 : el.size < scanBound := by rw [x.size]; exact x.room
  refine Calls.call_function_entry kind_sorted plain_sorted entry_sorted (args_sorted1 _) ?_
  unfold Builtin.«sorted»
  refine wpAny_bind (m := checkCount "sorted" 1 1 _) (wpAny_pure (wpAny_bind (collect_set (A := A.in1) hh ⟨ob, h0, hx.1, h2⟩ x.fits z0 x.ris x.led fun s1 vs k1 hz g1 o1 pm => ?_)))
  have hvl : vs.length < 64 := by rw [pm.length_eq, List.length_map, Array.length_toList, x.size]; exact h64
  have hS : StrsAre vs (vs.map fun v => keyX (0, v)) := strs_of vs fun v hv => by
    obtain ⟨e, he, rfl⟩ := List.mem_map.mp (pm.mem_iff.mp hv)
    obtain ⟨k, tk, h1, _⟩ := x.good e he
    exact ⟨k, tk, h1⟩
  have pk : (vs.map fun v => keyX (0, v)).Perm ks := by
    have q := pm.map fun v => keyX (0, v)
    rw [List.map_map] at q
    exact q.trans x.keys
  refine wpAny_bind (wpAny_newList ?_ (by rw [sizeLine_eq]; omega))
  have hg : (s1.heap.push (seqObj "list" vs.toArray 0)).get? s1.heap.objs.size = some (seqObj "list" vs.toArray 0) := Heap.get?_push_size _ rfl
  refine wpAny_bind (wpAny_holding (wpAny_call_entry (s := { s1 with heap := s1.heap.push (seqObj "list" vs.toArray 0) }) slot_list_sort ⟨_, hg, rfl⟩ entry_list_sort
    (list_sort_treeK strKind_oneLt hg hS.keysOf (fun v₁ v₂ rest e => keyKind_strs (by rw [← e]; exact hS)) hvl fun st' a1 a2 => ⟨_, rfl, ?_⟩) (args_list_sort _)))
  obtain ⟨ys, b1, b2, b3⟩ := sorted_out_str hS a1 a2
  obtain ⟨c, hc⟩ := sortedHeap_at (vs := vs) (out := _) hg
  refine wpAny_pure ⟨_, rfl, hQ _ s1.heap.objs.size _ c ys (fun b u e => ?_) g1 o1 hz hc b1 (b2.trans pk) b3⟩
  have q := k1 b u e
  have hlt := Heap.lt_size q
  show (sortedHeap (s1.heap.push (seqObj "list" vs.toArray 0)) s1.heap.objs.size vs _).get? b = some u
  rw [sortedHeap_old (Nat.ne_of_lt hlt) (by rw [Heap.size_push]; exact Nat.lt_succ_of_lt hlt)]
  exact Heap.get?_push_of_some _ q
end
/-- sorted(set(xs)), xs a list of texts -/
def tSortD (K : PySem.W.Frag) (ta : TE) : TE := fun σ H Q => ta σ H fun x H1 => ∃ l, ∃ xs : List Str, x = .ref l ∧ SqL K H1 l (xs.map V.str) ∧ xs.length ≤ 60 ∧
  ∀ (ys : List Str) (p : Addr), ys.Perm (uniq [] xs) → sortedS ys = true → H1 p = none → Q (.ref p) (upd H1 p (.lst (ys.map V.str)))
theorem pe_sortD {X : Cx} {a : Expr} {ta : TE} {p p2 q pos : Pos} (hc : X.calm = true) (hg : Gl X "sorted") (hm : X.mg "sorted" = none) (hg2 : Gl X "set") (hm2 : X.mg "set" = none) (ha : PE X a ta)
    (na : starEach [a] X.env = (false, eval a X.env) :: starEach [] X.env := by rfl) : PE X (.Call (.Name "sorted" p) [.Call (.Name "set" p2) [a] [] q] [] pos) (tSortD X.K ta) := by
  refine ⟨fun pns s τ G Q I h => ?_⟩
  refine Call_ (ld_blt I hg hm (show bootBuiltins "sorted" = some (.builtin "sorted") by decide +kernel) (PyProof.Rows.callWith_builtin1 (PyProof.Rows.args_cons (Call_ (ld_blt I hg2 hm2 boot_set ?_)) rfl) rfl rfl))
  refine PyProof.Rows.callWith_type1 (PyProof.Rows.args_cons (thn (ha.run pns s τ G _ I h) fun v s1 ⟨x, H1, I1, r1, q1⟩ => PyProof.Rows.args_nil ?_) na) na rfl
  obtain ⟨l, xs, rfl, hq, h1, q1⟩ := q1
  cases r1
  obtain ⟨its, r, pl, hz⟩ := I1.list hq
  refine xset_list (I1.ok.hd hc) pl.isList (by simpa using strsAre_of r) h1 fun h' tk hS hk => PyProof.Rows.args_nil ?_
  have hl : its.toArray.size = xs.length := by rw [List.size_toArray, ← r.length, List.length_map]
  rw [hl, List.take_length] at hS
  have I2 : Inv X pns τ H1 { s1 with heap := h', toks := tk } := I1.kept fun b o e => hk b o (Heap.lt_size e) e
  have h64 : (uniq [] xs).length < 64 := by
    have := uniq_len xs []
    rw [List.length_nil] at this
    omega
  refine sorted_x (s := { s1 with heap := h', toks := tk }) hS (I2.ok.hd hc) h64 fun s' p out c ys k g o hp hg hi hs hm => ?_
  have hlen : (ys.map V.str).length ≤ sizeLine := by rw [List.length_map, hs.length_eq, sizeLine_eq]; omega
  have hn : H1 p = none := I2.hok.fresh hp
  have J : Inv X pns τ (upd H1 p (.lst (ys.map V.str))) { ({ s1 with heap := h', toks := tk } : Shared) with heap := s'.heap, gens := s'.gens, drawn := s'.drawn, toks := s'.toks } :=
    I2.call (ch := []) (Un.laid k hp hn) (I2.hok.laid k hp ⟨hlen, out.toList, c, vals_of_strs hi, hg⟩) (by rw [g]; exact I2.bare) (fun _ z => nomatch z)
  have e : s' = { ({ s1 with heap := h', toks := tk } : Shared) with heap := s'.heap, gens := s'.gens, drawn := s'.drawn, toks := s'.toks } := by
    cases s'
    cases s1
    cases o
    rfl
  rw [e]
  exact ⟨.ref p, _, J, rfl, q1 ys p hs hm hn⟩
end Pw

set_option Elab.async false
set_option linter.all false
set_option maxRecDepth 100000
set_option maxHeartbeats 4000000
namespace Pw
open PySem PySem.Spec PyProof.Rows L2
section
variable {prog : Program} {w : World} {A : Around} {E : Value → Shared → Prop} {s : Shared}
theorem xset_tup {x : Addr} {items : Array Value} {xs : List Str} {Q : Value → Shared → Prop} (hh : A.handled = none) (hl : s.heap.IsTuple x items) (hi : PyProof.Rows.StrsAre items.toList xs) (hn : xs.length ≤ 60)
    (h : ∀ (h' : Heap) (tk : Nat), XSet prog w h' s.heap.objs.size (uniq [] (xs.take items.size)) → (∀ b o, b < s.heap.objs.size → s.heap.get? b = some o → h'.get? b = some o) → Q (.ref s.heap.objs.size) { s with heap := h', toks := tk }) :
    wpAny (model prog w) A (call (.type "set") [.ref x]) Q E s := by
  refine xset_by (n := items.size) (fun R E' hR => ?_) h
  obtain ⟨⟨ocls, odict, odata, oslots⟩, hol, hcl, nl, hdl⟩ := hl
  simp only at hcl hdl
  subst hcl
  subst hdl
  have hS : (s.heap.push (set0 (!w.params.followText "set-order"))).get? s.heap.objs.size = some (set0 (!w.params.followText "set-order")) := Heap.get?_push_size _ rfl
  have hol' : (s.heap.push (set0 (!w.params.followText "set-order"))).get? x = some { cls := .type "tuple", dict := odict, data := .seq items nl, slots := oslots } := Heap.get?_push_of_some _ hol
  have hsls := PySem.F.sub_tuple_set
  have hslf := PySem.F.sub_tuple_frozenset
  have hne : (Value.type "tuple" == Value.type "dict") = false := by decide
  have hl1 : (s.heap.push (set0 (!w.params.followText "set-order"))).IsTuple x items := ⟨_, hol', rfl, nl, rfl⟩
  unfold Builtin.«set.__init__» noKeywords Builtin.Frozenset.updateFrom
  generalize hPI : pyIter = PI
  wp_walk
  subst hPI
  refine wpAny_pyIter_tuple hl1 (wpAny_bind (wpAny_runValue ?_))
  have hlS : x < s.heap.objs.size := Heap.lt_size hol
  have hh3 : A.in1.in1.in1.handled = none := by simp [hh]
  have hneI : x ≠ (s.heap.push (set0 (!w.params.followText "set-order"))).objs.size := by
    rw [Heap.size_push]
    exact Nat.ne_of_lt (Nat.lt_succ_of_lt hlS)
  have hSf : s.heap.objs.size ∉ [(s.heap.push (set0 (!w.params.followText "set-order"))).objs.size, x] := by
    rw [Heap.size_push]
    simp only [List.mem_cons, List.mem_singleton, List.not_mem_nil, or_false, not_or]
    exact ⟨Nat.ne_of_lt (Nat.lt_succ_self _), Nat.ne_of_gt hlS⟩
  have hsz : xs.length = items.size := by rw [← StrsAre.len_eq hi, Array.length_toList]
  have hval : ∀ (i : Nat) (v : Value), items[i]? = some v → ∃ t, v = .str (xs.getD i Str.empty) t := fun i v hv => SS.strs_at hi i v (by rw [Array.getElem?_toList]; exact hv)
  refine x_loop ((Walks.tuple hh3 _ x hneI items).toS) s.heap.objs.size hSf xs hsz (by rw [← hsz]; exact hn) hval (items.size - 0) 0 _ (by omega) (Nat.zero_le _) ⟨⟨_, Heap.get?_push_size _ rfl, rfl, rfl⟩, (hl1.push _)⟩ ?hS0 ?hR
  case hS0 =>
    have hget : ((s.heap.push (set0 (!w.params.followText "set-order"))).push { cls := .type "tuple_iterator", data := .fields #[.ref x, .int 0 0] }).get? s.heap.objs.size = some (set0 (!w.params.followText "set-order")) := Heap.get?_push_of_some _ hS
    exact x_fresh.at fun o e => Heap.get?_push_of_some _ e
  case hR =>
    intro s' hm hS'
    obtain ⟨h', g', d', tk', os'⟩ := s'
    obtain rfl : g' = s.gens := hm.gens
    obtain rfl : d' = s.drawn := hm.drawn
    obtain rfl : os' = s.os := hm.os
    show wpAny _ _ _ _ _ _
    refine wpAny_pure ?_
    show wpAny _ _ (ret Value.none) _ _ _
    refine wpAny_pure (hR h' tk' hS' fun b o hb e => ?_)
    have hb1 : b ≠ s.heap.objs.size := Nat.ne_of_lt hb
    have hb2 : b ≠ (s.heap.push (set0 (!w.params.followText "set-order"))).objs.size := by
      rw [Heap.size_push]
      exact Nat.ne_of_lt (Nat.lt_succ_of_lt hb)
    exact hm.heap b o (by simp only [List.mem_cons, List.mem_singleton, List.not_mem_nil, or_false, not_or]; exact ⟨hb1, hb2⟩) (Heap.get?_push_of_some _ (Heap.get?_push_of_some _ e))
end
/-- sorted(set(xs)), xs a tuple of texts -/
def tSortT (K : PySem.W.Frag) (ta : TE) : TE := fun σ H Q => ta σ H fun x H1 => ∃ l, ∃ xs : List Str, x = .ref l ∧ SqT K H1 l (xs.map V.str) ∧ xs.length ≤ 60 ∧
  ∀ (ys : List Str) (p : Addr), ys.Perm (uniq [] xs) → sortedS ys = true → H1 p = none → Q (.ref p) (upd H1 p (.lst (ys.map V.str)))
theorem pe_sortT {X : Cx} {a : Expr} {ta : TE} {p p2 q pos : Pos} (hc : X.calm = true) (hg : Gl X "sorted") (hm : X.mg "sorted" = none) (hg2 : Gl X "set") (hm2 : X.mg "set" = none) (ha : PE X a ta)
    (na : starEach [a] X.env = (false, eval a X.env) :: starEach [] X.env := by rfl) : PE X (.Call (.Name "sorted" p) [.Call (.Name "set" p2) [a] [] q] [] pos) (tSortT X.K ta) := by
  refine ⟨fun pns s τ G Q I h => ?_⟩
  refine Call_ (ld_blt I hg hm (show bootBuiltins "sorted" = some (.builtin "sorted") by decide +kernel) (PyProof.Rows.callWith_builtin1 (PyProof.Rows.args_cons (Call_ (ld_blt I hg2 hm2 boot_set ?_)) rfl) rfl rfl))
  refine PyProof.Rows.callWith_type1 (PyProof.Rows.args_cons (thn (ha.run pns s τ G _ I h) fun v s1 ⟨x, H1, I1, r1, q1⟩ => PyProof.Rows.args_nil ?_) na) na rfl
  obtain ⟨l, xs, rfl, hq, h1, q1⟩ := q1
  cases r1
  obtain ⟨its, r, pl, hz⟩ := I1.tuple hq
  refine xset_tup (I1.ok.hd hc) (show s1.heap.IsTuple l its.toArray from pl) (by simpa using strsAre_of r) h1 fun h' tk hS hk => PyProof.Rows.args_nil ?_
  have hl : its.toArray.size = xs.length := by rw [List.size_toArray, ← r.length, List.length_map]
  rw [hl, List.take_length] at hS
  have I2 : Inv X pns τ H1 { s1 with heap := h', toks := tk } := I1.kept fun b o e => hk b o (Heap.lt_size e) e
  have h64 : (uniq [] xs).length < 64 := by
    have := uniq_len xs []
    rw [List.length_nil] at this
    omega
  refine sorted_x (s := { s1 with heap := h', toks := tk }) hS (I2.ok.hd hc) h64 fun s' p out c ys k g o hp hg hi hs hm => ?_
  have hlen : (ys.map V.str).length ≤ sizeLine := by rw [List.length_map, hs.length_eq, sizeLine_eq]; omega
  have hn : H1 p = none := I2.hok.fresh hp
  have J : Inv X pns τ (upd H1 p (.lst (ys.map V.str))) { ({ s1 with heap := h', toks := tk } : Shared) with heap := s'.heap, gens := s'.gens, drawn := s'.drawn, toks := s'.toks } :=
    I2.call (ch := []) (Un.laid k hp hn) (I2.hok.laid k hp ⟨hlen, out.toList, c, vals_of_strs hi, hg⟩) (by rw [g]; exact I2.bare) (fun _ z => nomatch z)
  have e : s' = { ({ s1 with heap := h', toks := tk } : Shared) with heap := s'.heap, gens := s'.gens, drawn := s'.drawn, toks := s'.toks } := by
    cases s'
    cases s1
    cases o
    rfl
  rw [e]
  exact ⟨.ref p, _, J, rfl, q1 ys p hs hm hn⟩
end Pw

set_option Elab.async false
set_option linter.all false
set_option maxRecDepth 100000
set_option maxHeartbeats 2000000
/-! what is raised, by its word -/
namespace Pw
open PySem PySem.Spec PyProof.Rows L2 TL
/-- the errors that a law asks of -/
inductive Er
  | row (i : Nat) | rule (s : Str) | pace (s : Str) | wide (i : Nat) | unl (i : Nat) | len (i : Nat) | txt (i : Nat) | plain (x : Str)
def numW (x : Str) (i : Nat) : Str := x ++ Str.ofString (toString (i : Int))
def Er.word : Er → Str
  | .row i => numW "badrow " i
  | .rule s => Str.ofString "badrule " ++ s
  | .pace s => Str.ofString "badpace " ++ s
  | .wide i => numW "toowide " i
  | .unl i => numW "unlawful " i
  | .len i => numW "badlength " i
  | .txt i => numW "badtext " i
  | .plain x => x
def Er.fld : Er → List (Str × V)
  | .row i => [("at", .int (i : Nat))]
  | .rule s => [("part", .str s)]
  | .pace s => [("part", .str s)]
  | .wide i => [("stands", .int (i : Nat))]
  | .unl i => [("at", .int (i : Nat))]
  | .len i => [("by", .int (i : Nat))]
  | .txt i => [("row", .int (i : Nat))]
  | .plain _ => []
def Er.Small : Er → Prop
  | .row i => i ≤ 100000
  | .rule s => (tl s).length ≤ 10
  | .pace s => (tl s).length ≤ 10
  | .wide i => i ≤ 100000
  | .unl i => i ≤ 100000
  | .len i => i ≤ 100000
  | .txt i => i ≤ 100000
  | .plain _ => True
theorem logS {i : Nat} (h : i ≤ 100000) : (i : Int).natAbs.log2 < 1920 := by
  rw [Int.natAbs_natCast]
  by_cases h0 : i = 0
  · subst h0
    decide
  · exact (Nat.log2_lt h0).mpr (Nat.lt_of_le_of_lt h (Nat.lt_of_lt_of_le (by decide : 100000 < 2 ^ 17) (Nat.pow_le_pow_right (by decide) (by decide))))
theorem sizeN {i : Nat} (h : i ≤ 100000) {z : Str} (hz : z.length ≤ 20 := by decide) : z.length + (Str.ofString (toString (i : Int))).length ≤ sizeLine := by
  have h1 : (Str.ofString (toString (i : Int))).length ≤ 1921 := int_text_len_1921 (logS h)
  exact Nat.le_trans (Nat.add_le_add hz h1) (by decide)
theorem sizeT {s : Str} (h : (tl s).length ≤ 10) {z : Str} (hz : z.length ≤ 20 := by decide) : z.length + s.length ≤ sizeLine := by
  rw [len_tl s]
  exact Nat.le_trans (Nat.add_le_add hz h) (by decide)
/-- word = x + str(e.f) -/
def tsNum (C : Addr) (x f : Str) : Addr → Value → Option Addr → TS := fun a cls d => tAsg (tOp (fun x y H Q => ∃ i j, x = .str i ∧ y = .str j ∧ i.length + j.length ≤ sizeLine ∧ Q (.str (i ++ j)) H) (tC (.str x)) (tCB (fun xs H Q => ∃ i, xs = [.int i] ∧ i.natAbs.log2 < 1920 ∧ Q (.str (toString i)) H) (tCons (tXf a cls d C f (tVar 3)) tNil))) (gName 2)
/-- word = x + e.part -/
def tsTxt (C : Addr) (x f : Str) : Addr → Value → Option Addr → TS := fun a cls d => tAsg (tOp (fun x y H Q => ∃ i j, x = .str i ∧ y = .str j ∧ i.length + j.length ≤ sizeLine ∧ Q (.str (i ++ j)) H) (tC (.str x)) (tXf a cls d C f (tVar 3))) (gName 2)
def tsNone : Addr → Value → Option Addr → TS := fun _ _ _ => tNever
end Pw

set_option Elab.async false
set_option linter.all false
set_option maxRecDepth 100000
/-! rows as texts; all rows of so many signs; the steps of a stand -/
namespace Pw
open PySem PySem.Builtin PySem.Builtin.Str PySem.StrLaws TL
def unS (l : List Nat) : List Bool := l.map fun c => c == 49
theorem un_rw (x : List Bool) : unS (rwS x) = x := by
  induction x with
  | nil => rfl
  | cons c r ih =>
    show (sgn c == 49) :: unS (rwS r) = c :: r
    rw [ih]
    cases c <;> rfl
theorem rw_un {l : List Nat} (h : Pure l) : rwS (unS l) = l := by
  obtain ⟨x, rfl⟩ := rw_of h
  rw [un_rw]
def bS (x : List Bool) : Str := ⟨(rwS x).toArray⟩
theorem tl_bS (x : List Bool) : tl (bS x) = rwS x := rfl
theorem len_bS (x : List Bool) : (tl (bS x)).length = x.length := by rw [tl_bS]; exact List.length_map ..
theorem str_ext {x y : Str} (h : tl x = tl y) : x = y := by
  cases x with
  | mk a =>
    cases y with
    | mk b =>
      have h2 : a.toList = b.toList := h
      rw [Array.toList_inj.mp h2]
theorem bS_un {x : Str} (h : Pure (tl x)) : bS (unS (tl x)) = x := str_ext (by rw [tl_bS, rw_un h])
theorem bS_inj {x y : List Bool} (h : bS x = bS y) : x = y := rw_inj (by rw [← tl_bS, ← tl_bS, h])
theorem bS_pure (x : List Bool) : Pure (tl (bS x)) := by rw [tl_bS]; exact rw_pure x
theorem un_bS (x : List Bool) : unS (tl (bS x)) = x := by rw [tl_bS, un_rw]
theorem bS_snoc0 (x : List Bool) : bS x ++ Str.ofString "0" = bS (x ++ [false]) := str_ext (by rw [tl_append, tl_bS, tl_bS, rw_snoc]; rfl)
theorem bS_snoc1 (x : List Bool) : bS x ++ Str.ofString "1" = bS (x ++ [true]) := str_ext (by rw [tl_append, tl_bS, tl_bS, rw_snoc]; rfl)
theorem un_take (l : List Nat) (n : Nat) : unS (l.take n) = (unS l).take n := List.map_take ..
theorem un_len (l : List Nat) : (unS l).length = l.length := List.length_map ..
/-- all rows of n signs, in their order -/
def txs : Nat → List (List Bool)
  | 0 => [[]]
  | n + 1 => (txs n).flatMap fun x => [x ++ [false], x ++ [true]]
theorem flat2_len {α β : Type} (f g : α → β) : ∀ l : List α, (l.flatMap fun x => [f x, g x]).length = 2 * l.length
  | [] => rfl
  | a :: r => by
    rw [List.flatMap_cons, List.length_append, flat2_len f g r]
    show 2 + 2 * r.length = 2 * (r.length + 1)
    omega
theorem txs_len : ∀ n, (txs n).length = 2 ^ n
  | 0 => rfl
  | n + 1 => by
    show ((txs n).flatMap fun x => [x ++ [false], x ++ [true]]).length = _
    rw [flat2_len, txs_len n, Nat.pow_succ]
    omega
theorem txs_size : ∀ n x, x ∈ txs n → x.length = n
  | 0, x, h => by
    rw [List.mem_singleton.mp h]
    rfl
  | n + 1, x, h => by
    obtain ⟨y, hy, hx⟩ := List.mem_flatMap.mp h
    have := txs_size n y hy
    rcases List.mem_cons.mp hx with rfl | hx
    · rw [List.length_append, this]
      rfl
    · rw [List.mem_singleton.mp hx, List.length_append, this]
      rfl
theorem txs_all : ∀ x : List Bool, x ∈ txs x.length := by
  suffices h : ∀ n (x : List Bool), x.length = n → x ∈ txs n from fun x => h _ x rfl
  intro n
  induction n with
  | zero =>
    intro x hx
    rw [List.length_eq_zero_iff.mp hx]
    exact List.mem_singleton.mpr rfl
  | succ n ih =>
    intro x hx
    have hne : x ≠ [] := fun z => by rw [z] at hx; cases hx
    have e := List.dropLast_concat_getLast hne
    refine List.mem_flatMap.mpr ⟨x.dropLast, ih _ (by rw [List.length_dropLast, hx]; rfl), ?_⟩
    cases hl : x.getLast hne with
    | false =>
      rw [hl] at e
      rw [e]
      exact List.mem_cons_self
    | true =>
      rw [hl] at e
      rw [e]
      exact List.mem_cons_of_mem _ List.mem_cons_self
/-- the places to which a sign more leads -/
def two (W : Gr) (p : List Bool × Nat) : List (List Bool × Nat) := [false, true].filterMap fun c => (goG W p.2 c).map fun g => (p.1 ++ [c], g)
def stp (W : Gr) (k : Nat) : Nat → List (List Bool × Nat)
  | 0 => [([], k)]
  | q + 1 => (stp W k q).flatMap (two W)
def seen (W : Gr) (k : Nat) (x : List Bool) : Option (List Bool × Nat) := (wlk W k x).map fun g => (x, g)
theorem seen_two (W : Gr) (k : Nat) (x : List Bool) : [x ++ [false], x ++ [true]].filterMap (seen W k) = (seen W k x).toList.flatMap (two W) := by
  unfold seen
  cases h : wlk W k x with
  | none =>
    have e : ∀ c : Bool, wlk W k (x ++ [c]) = none := fun c => by rw [wlk_app, h]; rfl
    rw [List.filterMap_cons, List.filterMap_cons, e, e]
    rfl
  | some j =>
    have e : ∀ c : Bool, wlk W k (x ++ [c]) = goG W j c := fun c => by
      rw [wlk_app, h]
      show (goG W j c).bind (fun i => wlk W i []) = _
      cases goG W j c <;> rfl
    show _ = List.flatMap (two W) [(x, j)]
    rw [List.flatMap_cons, List.flatMap_nil, List.append_nil]
    unfold two
    rw [List.filterMap_cons, List.filterMap_cons, List.filterMap_cons, List.filterMap_cons, e, e]
    cases goG W j false <;> cases goG W j true <;> rfl
theorem stp_txs (W : Gr) (k : Nat) : ∀ q, stp W k q = (txs q).filterMap (seen W k)
  | 0 => rfl
  | q + 1 => by
    show (stp W k q).flatMap (two W) = ((txs q).flatMap fun x => [x ++ [false], x ++ [true]]).filterMap (seen W k)
    rw [stp_txs W k q]
    generalize txs q = l
    induction l with
    | nil => rfl
    | cons a r ih =>
      rw [List.flatMap_cons, List.filterMap_append, ← ih, seen_two]
      cases h : seen W k a with
      | none =>
        rw [List.filterMap_cons_none h]
        rfl
      | some b =>
        rw [List.filterMap_cons_some h, List.flatMap_cons]
        show _ = List.flatMap (two W) [b] ++ _
        rw [List.flatMap_cons, List.flatMap_nil, List.append_nil]
theorem two_len (W : Gr) (p : List Bool × Nat) : (two W p).length ≤ 2 := List.length_filterMap_le ..
theorem stp_len (W : Gr) (k q : Nat) : (stp W k q).length ≤ 2 ^ q := by
  rw [stp_txs, ← txs_len q]
  exact List.length_filterMap_le ..
end Pw

set_option Elab.async false
set_option linter.all false
set_option maxRecDepth 100000
set_option maxHeartbeats 4000000
/-! zip of three lists, tuples and texts in any mix -/
namespace Pw
open PySem PySem.Spec PySem.Calls PyProof.Rows L2 TL
structure Apart3 (z TI TO i1 i2 i3 : Addr) (s1 s2 s3 : Sr) : Prop where
  TIz : TI ≠ z
  TOz : TO ≠ z
  TITO : TI ≠ TO
  TIi1 : TI ≠ i1
  TIi2 : TI ≠ i2
  TIi3 : TI ≠ i3
  zi1 : z ≠ i1
  zi2 : z ≠ i2
  zi3 : z ≠ i3
  Ti1 : TO ≠ i1
  Ti2 : TO ≠ i2
  Ti3 : TO ≠ i3
  i12 : i1 ≠ i2
  i13 : i1 ≠ i3
  i23 : i2 ≠ i3
  f1 : s1.far z ∧ s1.far TO ∧ s1.far i1 ∧ s1.far i2 ∧ s1.far i3
  f2 : s2.far z ∧ s2.far TO ∧ s2.far i1 ∧ s2.far i2 ∧ s2.far i3
  f3 : s3.far z ∧ s3.far TO ∧ s3.far i1 ∧ s3.far i2 ∧ s3.far i3
theorem Apart3.sep {z TI TO i1 i2 i3 : Addr} {s1 s2 s3 : Sr} (D : Apart3 z TI TO i1 i2 i3 s1 s2 s3) {fp1 fp2 fp3 : List Addr} (m1 : i1 ∈ fp1) (c1 : ∀ c ∈ fp1, c = i1 ∨ s1.v = .ref c) (m2 : i2 ∈ fp2) (c2 : ∀ c ∈ fp2, c = i2 ∨ s2.v = .ref c) (m3 : i3 ∈ fp3) (c3 : ∀ c ∈ fp3, c = i3 ∨ s3.v = .ref c) : ZipSep3 z TI TO i1 i2 i3 fp1 fp2 fp3 where
  TIz := D.TIz
  TOz := D.TOz
  TITO := D.TITO
  TIi1 := D.TIi1
  mem1 := m1
  zf1 := fun h => (c1 _ h).elim D.zi1 D.f1.1
  Tf1 := fun h => (c1 _ h).elim D.Ti1 D.f1.2.1
  TIi2 := D.TIi2
  mem2 := m2
  zf2 := fun h => (c2 _ h).elim D.zi2 D.f2.1
  Tf2 := fun h => (c2 _ h).elim D.Ti2 D.f2.2.1
  TIi3 := D.TIi3
  mem3 := m3
  zf3 := fun h => (c3 _ h).elim D.zi3 D.f3.1
  Tf3 := fun h => (c3 _ h).elim D.Ti3 D.f3.2.1
  sep1_2 := fun h => (c2 _ h).elim D.i12 D.f2.2.2.1
  sep1_3 := fun h => (c3 _ h).elim D.i13 D.f3.2.2.1
  sep2_1 := fun h => (c1 _ h).elim D.i12.symm D.f1.2.2.2.1
  sep2_3 := fun h => (c3 _ h).elim D.i23 D.f3.2.2.2.1
  sep3_1 := fun h => (c1 _ h).elim D.i13.symm D.f1.2.2.2.2
  sep3_2 := fun h => (c2 _ h).elim D.i23.symm D.f2.2.2.2.2
def Itz3 (K : PySem.W.Frag) (s1 s2 s3 : Sr) : It :=
  ⟨fun i H => ∃ (xs ys zs : List V) (x y z : V), s1.its K H xs ∧ s2.its K H ys ∧ s3.its K H zs ∧ xs[i]? = some x ∧ ys[i]? = some y ∧ zs[i]? = some z,
    fun i H v H' => ∃ T x y z, v = .ref T ∧ H T = none ∧ H' = upd H T (.tup [x, y, z]) ∧ (∀ xs, s1.its K H xs → xs[i]? = some x) ∧ (∀ ys, s2.its K H ys → ys[i]? = some y) ∧ ∀ zs, s3.its K H zs → zs[i]? = some z,
    fun i H => ∃ xs ys zs : List V, s1.its K H xs ∧ s2.its K H ys ∧ s3.its K H zs ∧ i ≤ xs.length ∧ i ≤ ys.length ∧ i ≤ zs.length ∧ (i = xs.length ∨ i = ys.length ∨ i = zs.length)⟩
theorem turn_zip3 {P : Program} {w : World} {K : PySem.W.Frag} {elts : List Expr} {kk : Nat} {tpos : Pos} {z TI TO i1 i2 i3 : Addr} {s1 s2 s3 : Sr} (D : Apart3 z TI TO i1 i2 i3 s1 s2 s3) :
    Turn P w K (.Tuple elts kk tpos) (Itz3 K s1 s2 s3) [z, TI, TO, i1, i2, i3] z (fun i h => IsZip h z TI TO .none ∧ IsTupOf3 h TI (.ref i1) (.ref i2) (.ref i3) ∧ (∃ x y u, IsTupOf3 h TO x y u) ∧ s1.here h i1 i ∧ s2.here h i2 i ∧ s3.here h i3 i) where
  mem := by simp
  obj := fun i h st c hc => by
    obtain ⟨hz, hTI, ⟨x, y, u, hTO⟩, h1, h2, h3⟩ := st
    have e' : c = z ∨ c = TI ∨ c = TO ∨ c = i1 ∨ c = i2 ∨ c = i3 := by simpa using hc
    rcases e' with q | q | q | q | q | q
    · exact q ▸ ⟨_, hz, fun v q => nomatch q⟩
    · exact q ▸ ⟨_, hTI, fun v q => nomatch q⟩
    · exact q ▸ ⟨_, hTO, fun v q => nomatch q⟩
    · exact q ▸ Sr.live h1
    · exact q ▸ Sr.live h2
    · exact q ▸ Sr.live h3
  keep := fun i h h' st k => by
    obtain ⟨hz, hTI, ⟨x, y, u, hTO⟩, h1, h2, h3⟩ := st
    exact ⟨k z (by simp) _ hz, k TI (by simp) _ hTI, ⟨x, y, u, k TO (by simp) _ hTO⟩, Sr.keep h1 fun o q => k i1 (by simp) o q, Sr.keep h2 fun o q => k i2 (by simp) o q, Sr.keep h3 fun o q => k i3 (by simp) o q⟩
  item := by
    intro X hP hw hK hc i pins s σ H E I hf st hg
    subst hP hw hK
    obtain ⟨hz, hTI, ⟨x0, y0, u0, hTO⟩, h1, h2, h3⟩ := st
    obtain ⟨xs, ys, zs, x, y, u, hqx, hqy, hqz, hx, hy, hzz⟩ := hg
    obtain ⟨fp1, P1, St1, D1, st1, b1, v1, m1, c1⟩ := Sr.draws I hc hqx D.f1.2.2.1 h1
    obtain ⟨fp2, P2, St2, D2, st2, b2, v2, m2, c2⟩ := Sr.draws I hc hqy D.f2.2.2.2.1 h2
    obtain ⟨fp3, P3, St3, D3, st3, b3, v3, m3, c3⟩ := Sr.draws I hc hqz D.f3.2.2.2.2 h3
    have hzl : z < s.heap.objs.size := Heap.lt_size hz
    refine wpAny_pyNext_zipD3_item (D.sep m1 c1 m2 c2 m3 c3) D1 D2 D3 hz hTI hTO st1 st2 st3 (List.getElem?_eq_some_iff.mp hx).1 (List.getElem?_eq_some_iff.mp hy).1 (List.getElem?_eq_some_iff.mp hzz).1 fun u1 u2 u3 h' tk y1 y2 y3 z' TO' st1' st2' st3' hT hsz hk => ?_
    obtain ⟨x', ex, rx⟩ := v1 _ _ y1
    obtain ⟨y', ey, ry⟩ := v2 _ _ y2
    obtain ⟨w', ew, rw'⟩ := v3 _ _ y3
    obtain rfl : x = x' := Option.some.inj (hx.symm.trans ex)
    obtain rfl : y = y' := Option.some.inj (hy.symm.trans ey)
    obtain rfl : u = w' := Option.some.inj (hzz.symm.trans ew)
    refine ⟨_, rfl, wpAny_letOwnedTupleGo_zip (s := { s with heap := h', toks := tk }) z' fun h'' z'' sb => ?_⟩
    have hT2 : h''.get? s.heap.objs.size = some { cls := .type "tuple", data := .seq #[u1, u2, u3] } := (sb.2 _ (Nat.ne_of_gt hzl)).trans hT
    have new : ObjOk X.prog X.w (upd H s.heap.objs.size (.tup [x, y, u])) h'' s.heap.objs.size (.tup [x, y, u]) :=
      ⟨by show 3 ≤ sizeLine; decide, [u1, u2, u3], .cons rx (.cons ry (.cons rw' .nil)), ⟨_, hT2, rfl, _, rfl⟩⟩
    have I1 : Inv X pins σ (upd H s.heap.objs.size (.tup [x, y, u])) { s with heap := h'', toks := tk } :=
      I.turnedNew (t' := tk) (ch := [z, TI, TO, i1, i2, i3]) (fun c o hb q => (sb.2 c (fun q' => hb (by simp [q']))).trans (hk c o (fun q' => hb (by simp [q'])) (fun q' => hb (by simp [q'])) (fun q' => hb (by simp [q'])) (fun q' => hb (by simp [q'])) (fun q' => hb (by simp [q'])) q)) hf (Nat.le_refl _) new
    refine ⟨.ref s.heap.objs.size, _, I1, rfl, ⟨_, x, y, u, rfl, I.hok.fresh (Nat.le_refl _), rfl, fun l hl => by rw [Sr.inj I hl hqx]; exact hx, fun l hl => by rw [Sr.inj I hl hqy]; exact hy, fun l hl => by rw [Sr.inj I hl hqz]; exact hzz⟩, ⟨z'', ?_, ⟨u1, u2, u3, ?_⟩, ?_, ?_, ?_⟩, fun c hcm => ?_⟩
    · exact (sb.2 _ D.TIz).trans (hk _ _ D.TIz D.TITO D.TIi1 D.TIi2 D.TIi3 hTI)
    · exact (sb.2 _ D.TOz).trans TO'
    · exact Sr.keep (b1 _ _ st1') fun o q => (sb.2 _ D.zi1.symm).trans q
    · exact Sr.keep (b2 _ _ st2') fun o q => (sb.2 _ D.zi2.symm).trans q
    · exact Sr.keep (b3 _ _ st3') fun o q => (sb.2 _ D.zi3.symm).trans q
    · have hlt : c < s.heap.objs.size := by
        have e' : c = z ∨ c = TI ∨ c = TO ∨ c = i1 ∨ c = i2 ∨ c = i3 := by simpa using hcm
        rcases e' with q | q | q | q | q | q
        · exact q ▸ hzl
        · exact q ▸ Heap.lt_size hTI
        · exact q ▸ Heap.lt_size hTO
        · obtain ⟨_, e1, _⟩ := Sr.live h1
          exact q ▸ Heap.lt_size e1
        · obtain ⟨_, e2, _⟩ := Sr.live h2
          exact q ▸ Heap.lt_size e2
        · obtain ⟨_, e3, _⟩ := Sr.live h3
          exact q ▸ Heap.lt_size e3
      rw [upd_ne (Nat.ne_of_lt hlt)]
      exact (hf c hcm).1
  done := by
    intro X hP hw hK hc i pins s σ H E I hf st hg
    subst hP hw hK
    obtain ⟨hz, hTI, ⟨x0, y0, u0, hTO⟩, h1, h2, h3⟩ := st
    obtain ⟨xs, ys, zs, hqx, hqy, hqz, le1, le2, le3, hend⟩ := hg
    obtain ⟨fp1, P1, St1, D1, st1, b1, v1, m1, c1⟩ := Sr.draws I hc hqx D.f1.2.2.1 h1
    obtain ⟨fp2, P2, St2, D2, st2, b2, v2, m2, c2⟩ := Sr.draws I hc hqy D.f2.2.2.2.1 h2
    obtain ⟨fp3, P3, St3, D3, st3, b3, v3, m3, c3⟩ := Sr.draws I hc hqz D.f3.2.2.2.2 h3
    exact wpAny_pyNext_zipD3_end (D.sep m1 c1 m2 c2 m3 c3) D1 D2 D3 hz hTI hTO st1 st2 st3 le1 le2 le3 hend fun h' tk hk => ⟨rfl, I.turnedL (t' := tk) (ch := [z, TI, TO, i1, i2, i3]) (fun c o hb q =>
      hk c o (fun q' => hb (by simp [q'])) (fun q' => hb (by simp [q'])) (fun q' => hb (by simp [q'])) (fun q' => hb (by simp [q'])) (fun q' => hb (by simp [q'])) q) hf⟩
  self := fun A i s Q E st h => wpAny_pyIter_zip st.1 h
def iZip3 (K : PySem.W.Frag) (ta : TA) : TI := fun σ H R => ta σ H fun vs H1 => ∃ (s1 s2 s3 : Sr) (xs ys zs : List V), vs = [s1.v, s2.v, s3.v] ∧ s1.its K H1 xs ∧ s2.its K H1 ys ∧ s3.its K H1 zs ∧ R (Itz3 K s1 s2 s3) H1
theorem pi_zip3 {X : Cx} {e e2 e3 : Expr} {ta : TA} {p pos tpos : Pos} {elts : List Expr} {kk : Nat} (hg : Gl X "zip") (hm : X.mg "zip" = none) (ha : PA X [e, e2, e3] ta)
    (hs : starEach [e, e2, e3] X.env = (false, eval e X.env) :: starEach [e2, e3] X.env := by rfl) (hpl : (backTo pos (starEach [e2, e3] X.env)).any (·.1) = false := by rfl) :
    PI X (.Tuple elts kk tpos) (.Call (.Name "zip" p) [e, e2, e3] [] pos) (iZip3 X.K ta) := by
  refine ⟨fun pins s σ H R I h => ?_⟩
  refine Call_ (ld_blt I hg hm PyProof.Rows.boot_zip (PyProof.Rows.callWith_type1 (thn (ha.run pos pins s σ H _ I h) fun us s1 ⟨vs, H1, I1, r1, q1⟩ => ?_) hs hpl))
  obtain ⟨sa, sb, sc, xs, ys, zs, ex, hqx, hqy, hqz, q⟩ := q1
  subst ex
  cases r1 with
  | cons r rr =>
    cases rr with
    | cons r' rr =>
      cases rr with
      | cons r'' rr =>
        cases rr
        obtain ⟨o1, Hh1, B1, hB1, w1, fa⟩ := Sr.begins I1 hqx r
        obtain ⟨o2, Hh2, B2, hB2, w2, fb⟩ := Sr.begins I1 hqy r'
        obtain ⟨o3, Hh3, B3, hB3, w3, fc⟩ := Sr.begins I1 hqz r''
        have fresh6 : ∀ c, c ∈ [s1.heap.objs.size + 5, s1.heap.objs.size + 3, s1.heap.objs.size + 4, s1.heap.objs.size, s1.heap.objs.size + 1, s1.heap.objs.size + 2] → FpOk X pins H1 c := fun c hcm => by
          have e' : c = s1.heap.objs.size + 5 ∨ c = s1.heap.objs.size + 3 ∨ c = s1.heap.objs.size + 4 ∨ c = s1.heap.objs.size ∨ c = s1.heap.objs.size + 1 ∨ c = s1.heap.objs.size + 2 := by simpa using hcm
          have hle : s1.heap.objs.size ≤ c := by
            rcases e' with z | z | z | z | z | z
            · rw [z]; exact Nat.le_add_right _ _
            · rw [z]; exact Nat.le_add_right _ _
            · rw [z]; exact Nat.le_add_right _ _
            · rw [z]; exact Nat.le_refl _
            · rw [z]; exact Nat.le_add_right _ _
            · rw [z]; exact Nat.le_add_right _ _
          exact I1.fpOk hle (I1.hok.fresh hle)
        refine zip_begins3 B1 B2 B3 hB1 hB2 hB3 fun h' hz hTI hTO h1 h2 h3 hsz hk => wpAny_pyIter_zip hz ?_
        have I2 : Inv X pins σ H1 { s1 with heap := h' } := I1.kept (t' := s1.toks) hk
        have N : ∀ (m k : Nat), m ≠ k → s1.heap.objs.size + m ≠ s1.heap.objs.size + k := fun m k h e => h (Nat.add_left_cancel e)
        have F1 : ∀ m : Nat, sa.far (s1.heap.objs.size + m) := fun m => fa _ (Nat.le_add_right _ _)
        have F2 : ∀ m : Nat, sb.far (s1.heap.objs.size + m) := fun m => fb _ (Nat.le_add_right _ _)
        have F3 : ∀ m : Nat, sc.far (s1.heap.objs.size + m) := fun m => fc _ (Nat.le_add_right _ _)
        exact ⟨s1.heap.objs.size + 5, [s1.heap.objs.size + 5, s1.heap.objs.size + 3, s1.heap.objs.size + 4, s1.heap.objs.size, s1.heap.objs.size + 1, s1.heap.objs.size + 2], _, _, H1, rfl, I2,
          turn_zip3 ⟨N 3 5 (by decide), N 4 5 (by decide), N 3 4 (by decide), N 3 0 (by decide), N 3 1 (by decide), N 3 2 (by decide), N 5 0 (by decide), N 5 1 (by decide), N 5 2 (by decide), N 4 0 (by decide), N 4 1 (by decide), N 4 2 (by decide), N 0 1 (by decide), N 0 2 (by decide), N 1 2 (by decide), ⟨F1 5, F1 4, F1 0, F1 1, F1 2⟩, ⟨F2 5, F2 4, F2 0, F2 1, F2 2⟩, ⟨F3 5, F3 4, F3 0, F3 1, F3 2⟩⟩,
          ⟨hz, hTI, ⟨_, _, _, hTO⟩, w1 _ _ h1, w2 _ _ h2, w3 _ _ h3⟩, fresh6, q⟩
/-- what a turn of such a zip gives -/
def YTri (f g k : Nat → Option V) : Nat → Hp → V → Hp → Prop := fun i H v H' => ∃ T x y z, v = .ref T ∧ H T = none ∧ H' = upd H T (.tup [x, y, z]) ∧ f i = some x ∧ g i = some y ∧ k i = some z
theorem walk_zip3 {K : PySem.W.Frag} {s1 s2 s3 : Sr} {xs ys zs : List V} {n : Nat} (hn : n = min xs.length (min ys.length zs.length)) : Walk (Itz3 K s1 s2 s3) n (fun H => s1.its K H xs ∧ s2.its K H ys ∧ s3.its K H zs) (YTri (fun i => xs[i]?) (fun i => ys[i]?) (fun i => zs[i]?)) := by
  subst hn
  refine ⟨fun i _ hi q => ?_, fun _ q => ⟨xs, ys, zs, q.1, q.2.1, q.2.2, by omega⟩, fun i H v H' _ q y => ?_⟩
  · have h1 : i < xs.length := by omega
    have h2 : i < ys.length := by omega
    have h3 : i < zs.length := by omega
    exact ⟨xs, ys, zs, xs[i], ys[i], zs[i], q.1, q.2.1, q.2.2, by simp [h1], by simp [h2], by simp [h3]⟩
  · obtain ⟨T, x, y, z, h1, h2, h3, h4, h5, h6⟩ := y
    exact ⟨T, x, y, z, h1, h2, h3, h4 xs q.1, h5 ys q.2.1, h6 zs q.2.2⟩
end Pw

set_option Elab.async false
set_option linter.all false
/-! walks in a graph, the least number of edges beyond all of them; the places in the order in which their goals are known -/
namespace Pw
section
variable {α β : Type} {gs : α → List α}
/-- a walk of so many edges goes from p -/
def wk (gs : α → List α) : Nat → α → Prop
  | 0, _ => True
  | k + 1, p => ∃ g, g ∈ gs p ∧ wk gs k g
theorem wk_anti : ∀ (k : Nat) (p : α), wk gs (k + 1) p → wk gs k p
  | 0, _, _ => True.intro
  | k + 1, _, ⟨g, hg, h⟩ => ⟨g, hg, wk_anti k g h⟩
theorem wk_le {j k : Nat} (h : j ≤ k) {p : α} (w : wk gs k p) : wk gs j p := by
  induction k with
  | zero =>
    obtain rfl : j = 0 := Nat.le_zero.mp h
    exact w
  | succ k ih =>
    by_cases e : j = k + 1
    · rw [e]
      exact w
    · exact ih (by omega) (wk_anti k p w)
/-- the greatest number of edges of a walk from p -/
def Top (gs : α → List α) (p : α) (n : Nat) : Prop := wk gs n p ∧ ¬ wk gs (n + 1) p
theorem Top.one {p : α} {n m : Nat} (h : Top gs p n) (h' : Top gs p m) : n = m := by
  have a : ¬ n < m := fun z => h.2 (wk_le (by omega) h'.1)
  have b : ¬ m < n := fun z => h'.2 (wk_le (by omega) h.1)
  omega
theorem top_none {p : α} (h : gs p = []) : Top gs p 0 := ⟨True.intro, fun ⟨g, hg, _⟩ => by rw [h] at hg; cases hg⟩
theorem top_max {p : α} {len : α → Nat} {m : Nat} (h : ∀ g, g ∈ gs p → Top gs g (len g)) (hle : ∀ g, g ∈ gs p → len g + 1 ≤ m) (hm : (gs p = [] ∧ m = 0) ∨ ∃ g, g ∈ gs p ∧ m = len g + 1) : Top gs p m := by
  rcases hm with ⟨e, rfl⟩ | ⟨g, hg, rfl⟩
  · exact top_none e
  · refine ⟨⟨g, hg, (h g hg).1⟩, fun ⟨g', hg', w⟩ => (h g' hg').2 (wk_le ?_ w)⟩
    have := hle g' hg'
    omega
/-- the least number of edges that no walk has -/
def Mem (U : List α) (gs : α → List α) : Option Nat → Prop
  | some k => (∀ p, p ∈ U → ¬ wk gs k p) ∧ ∀ j, j < k → ∃ p, p ∈ U ∧ wk gs j p
  | none => ∀ j, ∃ p, p ∈ U ∧ wk gs j p
theorem Mem.one {U : List α} {o o' : Option Nat} (h : Mem U gs o) (h' : Mem U gs o') : o = o' := by
  cases o with
  | none =>
    cases o' with
    | none => rfl
    | some k =>
      obtain ⟨p, hp, w⟩ := h k
      exact absurd w (h'.1 p hp)
  | some k =>
    cases o' with
    | none =>
      obtain ⟨p, hp, w⟩ := h' k
      exact absurd w (h.1 p hp)
    | some k' =>
      have a : ¬ k < k' := fun z => by
        obtain ⟨p, hp, w⟩ := h'.2 k z
        exact h.1 p hp w
      have b : ¬ k' < k := fun z => by
        obtain ⟨p, hp, w⟩ := h.2 k' z
        exact h'.1 p hp w
      rw [show k = k' by omega]
theorem mem_nil : Mem ([] : List α) gs (some 0) := ⟨fun p hp => (nomatch hp), fun j hj => absurd hj (Nat.not_lt_zero _)⟩
/-- all places have their greatest numbers -/
theorem mem_some {U : List α} {len : α → Nat} {m : Nat} (h : ∀ p, p ∈ U → Top gs p (len p)) (hle : ∀ p, p ∈ U → len p ≤ m) (hm : ∃ p, p ∈ U ∧ m = len p) : Mem U gs (some (m + 1)) := by
  obtain ⟨p, hp, rfl⟩ := hm
  refine ⟨fun q hq w => (h q hq).2 (wk_le ?_ w), fun j hj => ⟨p, hp, wk_le (by omega) (h p hp).1⟩⟩
  have := hle q hq
  omega
/-- places that lead on among themselves -/
theorem wk_all {S : α → Prop} (h : ∀ p, S p → ∃ g, g ∈ gs p ∧ S g) : ∀ (k : Nat) (p : α), S p → wk gs k p
  | 0, _, _ => True.intro
  | k + 1, p, hp => by
    obtain ⟨g, hg, hs⟩ := h p hp
    exact ⟨g, hg, wk_all h k g hs⟩
theorem mem_inf {U : List α} {S : α → Prop} (h : ∀ p, S p → ∃ g, g ∈ gs p ∧ S g) {p : α} (hp : p ∈ U) (hs : S p) : Mem U gs none := fun j => ⟨p, hp, wk_all h j p hs⟩
/-- one graph seen as another -/
theorem wk_img {gs' : β → List β} (f : α → β) (h1 : ∀ p g, g ∈ gs p → f g ∈ gs' (f p)) (h2 : ∀ p g', g' ∈ gs' (f p) → ∃ g, g ∈ gs p ∧ f g = g') : ∀ (k : Nat) (p : α), wk gs k p ↔ wk gs' k (f p)
  | 0, _ => ⟨fun _ => True.intro, fun _ => True.intro⟩
  | k + 1, p => by
    constructor
    · rintro ⟨g, hg, w⟩
      exact ⟨f g, h1 p g hg, (wk_img f h1 h2 k g).mp w⟩
    · rintro ⟨g', hg', w⟩
      obtain ⟨g, hg, rfl⟩ := h2 p g' hg'
      exact ⟨g, hg, (wk_img f h1 h2 k g).mpr w⟩
theorem mem_img {gs' : β → List β} {U : List α} {U' : List β} (f : α → β) (h1 : ∀ p g, g ∈ gs p → f g ∈ gs' (f p)) (h2 : ∀ p g', g' ∈ gs' (f p) → ∃ g, g ∈ gs p ∧ f g = g') (u1 : ∀ p, p ∈ U → f p ∈ U') (u2 : ∀ q, q ∈ U' → ∃ p, p ∈ U ∧ f p = q) {o : Option Nat} : Mem U gs o ↔ Mem U' gs' o := by
  have e : ∀ j, (∃ p, p ∈ U ∧ wk gs j p) ↔ ∃ q, q ∈ U' ∧ wk gs' j q := fun j => by
    constructor
    · rintro ⟨p, hp, w⟩
      exact ⟨f p, u1 p hp, (wk_img f h1 h2 j p).mp w⟩
    · rintro ⟨q, hq, w⟩
      obtain ⟨p, hp, rfl⟩ := u2 q hq
      exact ⟨p, hp, (wk_img f h1 h2 j p).mpr w⟩
  cases o with
  | none => exact ⟨fun h j => (e j).mp (h j), fun h j => (e j).mpr (h j)⟩
  | some k =>
    constructor
    · rintro ⟨a, b⟩
      refine ⟨fun q hq w => ?_, fun j hj => (e j).mp (b j hj)⟩
      obtain ⟨p, hp, w'⟩ := (e k).mpr ⟨q, hq, w⟩
      exact a p hp w'
    · rintro ⟨a, b⟩
      refine ⟨fun q hq w => ?_, fun j hj => (e j).mpr (b j hj)⟩
      obtain ⟨p, hp, w'⟩ := (e k).mp ⟨q, hq, w⟩
      exact a p hp w'
/-! the places where walks of so many edges end -/
def rch (U : List α) (gs : α → List α) : Nat → α → Prop
  | 0, q => q ∈ U
  | k + 1, q => ∃ p, rch U gs k p ∧ q ∈ gs p
theorem rch_wk {U : List α} : ∀ (k j : Nat), (∃ q, rch U gs k q ∧ wk gs j q) ↔ ∃ p, p ∈ U ∧ wk gs (k + j) p
  | 0, j => by
    rw [Nat.zero_add]
    exact Iff.rfl
  | k + 1, j => by
    rw [show k + 1 + j = k + (j + 1) by omega, ← rch_wk k (j + 1)]
    constructor
    · rintro ⟨q, ⟨p, hp, hq⟩, w⟩
      exact ⟨p, hp, q, hq, w⟩
    · rintro ⟨p, hp, q, hq, w⟩
      exact ⟨q, ⟨p, hp, hq⟩, w⟩
theorem rch_some {U : List α} {k : Nat} : (∃ q, rch U gs k q) ↔ ∃ p, p ∈ U ∧ wk gs k p := by
  have := rch_wk (U := U) (gs := gs) k 0
  rw [Nat.add_zero] at this
  rw [← this]
  exact ⟨fun ⟨q, h⟩ => ⟨q, h, True.intro⟩, fun ⟨q, h, _⟩ => ⟨q, h⟩⟩
theorem rch_sub {U : List α} (hU : ∀ p, p ∈ U → ∀ g, g ∈ gs p → g ∈ U) : ∀ (k : Nat) (q : α), rch U gs (k + 1) q → rch U gs k q
  | 0, q, ⟨p, hp, hq⟩ => hU p hp q hq
  | k + 1, q, ⟨p, hp, hq⟩ => ⟨p, rch_sub hU k p hp, hq⟩
/-- none is left: the number is told -/
theorem mem_rch {U : List α} {k : Nat} (h0 : ¬ ∃ q, rch U gs k q) (h1 : ∀ j, j < k → ∃ q, rch U gs j q) : Mem U gs (some k) :=
  ⟨fun p hp w => h0 (rch_some.mpr ⟨p, hp, w⟩), fun j hj => rch_some.mp (h1 j hj)⟩
/-- as many are left as were: it never ends -/
theorem mem_stay {U : List α} {k : Nat} (h : ∀ q, rch U gs k q → rch U gs (k + 1) q) (h1 : ∃ q, rch U gs k q) : Mem U gs none := fun j => by
  have up : ∀ i q, rch U gs k q → rch U gs (k + i) q := fun i => by
    induction i with
    | zero => exact fun q hq => hq
    | succ i ih =>
      intro q hq
      obtain ⟨p, hp, hg⟩ := h q hq
      exact ⟨p, ih p hp, hg⟩
  obtain ⟨q, hq⟩ := h1
  obtain ⟨p, hp, w⟩ := rch_some.mp ⟨q, up j q hq⟩
  exact ⟨p, hp, wk_le (by omega) w⟩
end
end Pw

set_option Elab.async false
set_option linter.all false
/-! the places of a graph in the order in which all their goals are known -/
namespace Pw
section
variable {α : Type} [DecidableEq α] {gs : α → List α} {U : List α}
/-- how many goals of q are not in D -/
def cntN (gs : α → List α) (D : List α) (q : α) : Nat := ((gs q).filter fun g => !decide (g ∈ D)).length
/-- the places with an edge to g, as often as they have one -/
def intoN (U : List α) (gs : α → List α) (g : α) : List α := U.flatMap fun p => ((gs p).filter fun h => decide (h = g)).map fun _ => p
def edgN (gs : α → List α) (g q : α) : Nat := ((gs q).filter fun h => decide (h = g)).length
theorem into_cnt_off {g q : α} : ∀ {U : List α}, q ∉ U → (intoN U gs g).count q = 0
  | [], _ => rfl
  | p :: U, h => by
    show (((gs p).filter fun h => decide (h = g)).map (fun _ => p) ++ intoN U gs g).count q = 0
    rw [List.count_append, into_cnt_off (U := U) fun z => h (List.mem_cons_of_mem _ z), Nat.add_zero]
    refine List.count_eq_zero.mpr fun z => ?_
    obtain ⟨_, _, e⟩ := List.mem_map.mp z
    exact h (e ▸ List.mem_cons_self ..)
theorem into_cnt {g q : α} : ∀ {U : List α}, U.Nodup → q ∈ U → (intoN U gs g).count q = edgN gs g q
  | [], _, h => nomatch h
  | p :: U, nd, h => by
    show (((gs p).filter fun h => decide (h = g)).map (fun _ => p) ++ intoN U gs g).count q = _
    rw [List.count_append]
    have n2 := List.nodup_cons.mp nd
    by_cases e : q = p
    · subst e
      rw [into_cnt_off n2.1, Nat.add_zero]
      unfold edgN
      generalize (gs q).filter (fun h => decide (h = g)) = l
      rw [List.map_const', List.count_replicate_self]
    · have hq : q ∈ U := by
        rcases List.mem_cons.mp h with z | z
        · exact absurd z e
        · exact z
      rw [into_cnt n2.2 hq]
      have : (((gs p).filter fun h => decide (h = g)).map fun _ => p).count q = 0 := List.count_eq_zero.mpr fun z => by
        obtain ⟨_, _, e'⟩ := List.mem_map.mp z
        exact e e'.symm
      omega
theorem into_in {g q : α} (h : q ∈ intoN U gs g) : q ∈ U := by
  unfold intoN at h
  obtain ⟨p, hp, h2⟩ := List.mem_flatMap.mp h
  obtain ⟨_, _, e⟩ := List.mem_map.mp h2
  exact e ▸ hp
theorem cnt_more {D : List α} {g : α} (h : g ∉ D) (q : α) : cntN gs D q = cntN gs (D ++ [g]) q + edgN gs g q := by
  unfold cntN edgN
  induction gs q with
  | nil => rfl
  | cons x l ih =>
    rw [List.filter_cons, List.filter_cons, List.filter_cons]
    by_cases e : x = g
    · subst e
      have h1 : x ∈ D ++ [x] := List.mem_append_right _ (List.mem_cons_self ..)
      rw [decide_eq_false h, decide_eq_true h1, decide_eq_true rfl]
      simp only [Bool.not_false, Bool.not_true, Bool.false_eq_true, if_true, if_false, List.length_cons]
      omega
    · have h2 : x ∈ D ++ [g] ↔ x ∈ D := by
        rw [List.mem_append]
        exact ⟨fun z => z.elim id fun z => absurd (List.mem_singleton.mp z) e, .inl⟩
      rw [decide_eq_false e, show decide (x ∈ D ++ [g]) = decide (x ∈ D) from decide_eq_decide.mpr h2]
      by_cases c : x ∈ D
      · rw [decide_eq_true c]
        simp only [Bool.not_true, Bool.false_eq_true, if_false]
        exact ih
      · rw [decide_eq_false c]
        simp only [Bool.not_false, if_true, Bool.false_eq_true, if_false, List.length_cons]
        omega
/-- t places of those known are done; un: how many goals are not known yet -/
structure Kn (U : List α) (gs : α → List α) (kn : List α) (t : Nat) (un : α → Nat) : Prop where
  nd : kn.Nodup
  tl : t ≤ kn.length
  mem : ∀ q, q ∈ kn ↔ q ∈ U ∧ un q = 0
  cnt : ∀ q, q ∈ U → un q = cntN gs (kn.take t) q
/-- the same, while the places that lead to g are gone through -/
structure KnI (U : List α) (gs : α → List α) (kn : List α) (t : Nat) (un : α → Nat) (g : α) (i : Nat) : Prop where
  nd : kn.Nodup
  at_ : kn[t]? = some g
  mem : ∀ q, q ∈ kn ↔ q ∈ U ∧ un q = 0
  cnt : ∀ q, q ∈ U → un q = cntN gs (kn.take (t + 1)) q + ((intoN U gs g).drop i).count q
theorem Kn.start (hU : U.Nodup) : Kn U gs (U.filter fun p => (gs p).isEmpty) 0 fun q => (gs q).length where
  nd := hU.sublist List.filter_sublist
  tl := Nat.zero_le _
  mem q := by
    rw [List.mem_filter, List.isEmpty_iff]
    exact ⟨fun ⟨a, b⟩ => ⟨a, by rw [b]; rfl⟩, fun ⟨a, b⟩ => ⟨a, List.length_eq_zero_iff.mp b⟩⟩
  cnt q _ := by
    unfold cntN
    rw [List.filter_eq_self.mpr fun x _ => by simp]
theorem Kn.top {kn : List α} {t : Nat} {un : α → Nat} (h : Kn U gs kn t un) {g : α} (hg : kn[t]? = some g) : ∀ x, x ∈ gs g → x ∈ kn.take t := fun x hx => by
  obtain ⟨gu, g0⟩ := (h.mem g).mp (List.mem_of_getElem? hg)
  have hc := h.cnt g gu
  rw [g0] at hc
  unfold cntN at hc
  by_cases c : x ∈ kn.take t
  · exact c
  · have : x ∈ (gs g).filter fun g => !decide (g ∈ kn.take t) := List.mem_filter.mpr ⟨hx, by rw [decide_eq_false c]; rfl⟩
    rw [List.length_eq_zero_iff.mp hc.symm] at this
    cases this
theorem Kn.fresh {kn : List α} {t : Nat} {un : α → Nat} (h : Kn U gs kn t un) {g : α} (hg : kn[t]? = some g) : g ∉ kn.take t := fun z => by
  obtain ⟨i, hi⟩ := List.getElem?_of_mem z
  rw [List.getElem?_take] at hi
  by_cases c : i < t
  · rw [if_pos c] at hi
    have h1 := (List.getElem?_eq_some_iff.mp hi).1
    have := (List.getElem?_inj h1 h.nd).mp (hi.trans hg.symm)
    omega
  · rw [if_neg c] at hi
    cases hi
theorem Kn.into {kn : List α} {t : Nat} {un : α → Nat} (h : Kn U gs kn t un) (hU : U.Nodup) {g : α} (hg : kn[t]? = some g) : KnI U gs kn t un g 0 where
  nd := h.nd
  at_ := hg
  mem := h.mem
  cnt q hq := by
    rw [h.cnt q hq, cnt_more (h.fresh hg) q, List.drop_zero, into_cnt hU hq, List.take_add_one, hg]
    rfl
theorem KnI.pos {kn : List α} {t : Nat} {un : α → Nat} {g : α} {i : Nat} (h : KnI U gs kn t un g i) {b : α} (hb : (intoN U gs g)[i]? = some b) : b ∈ U ∧ 0 < un b := by
  have bu : b ∈ U := into_in (List.mem_of_getElem? hb)
  refine ⟨bu, ?_⟩
  rw [h.cnt b bu]
  have hd : (intoN U gs g).drop i = b :: (intoN U gs g).drop (i + 1) := by
    obtain ⟨hi, e⟩ := List.getElem?_eq_some_iff.mp hb
    rw [List.drop_eq_getElem_cons hi, e]
  rw [hd, List.count_cons_self]
  omega
theorem KnI.step {kn : List α} {t : Nat} {un : α → Nat} {g : α} {i : Nat} (h : KnI U gs kn t un g i) {b : α} (hb : (intoN U gs g)[i]? = some b) : KnI U gs (if un b - 1 = 0 then kn ++ [b] else kn) t (fun q => if q = b then un b - 1 else un q) g (i + 1) := by
  obtain ⟨bu, bp⟩ := h.pos hb
  have bn : b ∉ kn := fun z => by
    have := ((h.mem b).mp z).2
    omega
  have ht : t < kn.length := (List.getElem?_eq_some_iff.mp h.at_).1
  have tk : (if un b - 1 = 0 then kn ++ [b] else kn).take (t + 1) = kn.take (t + 1) := by
    split
    · rw [List.take_append_of_le_length ht]
    · rfl
  have hd : (intoN U gs g).drop i = b :: (intoN U gs g).drop (i + 1) := by
    obtain ⟨hi, e⟩ := List.getElem?_eq_some_iff.mp hb
    rw [List.drop_eq_getElem_cons hi, e]
  refine ⟨?_, ?_, fun q => ?_, fun q hq => ?_⟩
  · split
    · exact List.nodup_append.mpr ⟨h.nd, List.pairwise_singleton _ _, fun x hx y hy e => bn (by rw [← List.mem_singleton.mp hy, ← e]; exact hx)⟩
    · exact h.nd
  · split
    · rw [List.getElem?_append_left ht]
      exact h.at_
    · exact h.at_
  · by_cases e : q = b
    · subst e
      rw [if_pos rfl]
      by_cases c : un q - 1 = 0
      · rw [if_pos c]
        exact ⟨fun _ => ⟨bu, c⟩, fun _ => List.mem_append_right _ (List.mem_cons_self ..)⟩
      · rw [if_neg c]
        exact ⟨fun z => absurd z bn, fun z => absurd z.2 c⟩
    · rw [if_neg e]
      refine Iff.trans ?_ (h.mem q)
      split
      · rw [List.mem_append]
        exact ⟨fun z => z.elim id fun z => absurd (List.mem_singleton.mp z) e, .inl⟩
      · exact Iff.rfl
  · rw [tk]
    have hc := h.cnt q hq
    rw [hd] at hc
    by_cases e : q = b
    · subst e
      rw [List.count_cons_self] at hc
      rw [if_pos rfl]
      omega
    · rw [List.count_cons_of_ne (fun z => e z.symm)] at hc
      rw [if_neg e]
      exact hc
theorem KnI.done {kn : List α} {t : Nat} {un : α → Nat} {g : α} (h : KnI U gs kn t un g (intoN U gs g).length) : Kn U gs kn (t + 1) un where
  nd := h.nd
  tl := (List.getElem?_eq_some_iff.mp h.at_).1
  mem := h.mem
  cnt q hq := by
    rw [h.cnt q hq, List.drop_length]
    rfl
/-- all known ones are done: the others lead on among themselves -/
theorem Kn.rest {kn : List α} {un : α → Nat} (h : Kn U gs kn kn.length un) {q : α} (hq : q ∈ U) (hn : q ∉ kn) : ∃ g, g ∈ gs q ∧ g ∉ kn := by
  have hc := h.cnt q hq
  rw [List.take_length] at hc
  have hp : 0 < un q := Nat.pos_of_ne_zero fun z => hn ((h.mem q).mpr ⟨hq, z⟩)
  rw [hc] at hp
  unfold cntN at hp
  obtain ⟨g, hg⟩ := List.exists_mem_of_length_pos hp
  obtain ⟨h1, h2⟩ := List.mem_filter.mp hg
  exact ⟨g, h1, fun z => by rw [decide_eq_true z] at h2; cases h2⟩
theorem Kn.mem_none {kn : List α} {un : α → Nat} (h : Kn U gs kn kn.length un) (hgo : ∀ p, p ∈ U → ∀ g, g ∈ gs p → g ∈ U) {p : α} (hp : p ∈ U) (hn : p ∉ kn) : Mem U gs none :=
  mem_inf (S := fun q => q ∈ U ∧ q ∉ kn) (fun q ⟨a, b⟩ => by
    obtain ⟨g, hg, hk⟩ := h.rest a b
    exact ⟨g, hg, hgo q a g hg, hk⟩) hp ⟨hp, hn⟩
theorem Kn.full {kn : List α} {t : Nat} {un : α → Nat} (h : Kn U gs kn t un) (hU : U.Nodup) (hl : kn.length = U.length) : ∀ p, p ∈ U → p ∈ kn := fun p hp => Classical.byContradiction fun z => by
  have hs : ∀ x, x ∈ p :: kn → x ∈ U := fun x hx => (List.mem_cons.mp hx).elim (fun e => e ▸ hp) fun e => ((h.mem x).mp e).1
  have hd : (p :: kn).Nodup := List.nodup_cons.mpr ⟨z, h.nd⟩
  have := nd_le _ _ hd hs
  rw [List.length_cons] at this
  omega
theorem Kn.part {kn : List α} {t : Nat} {un : α → Nat} (h : Kn U gs kn t un) (hU : U.Nodup) (hl : kn.length ≠ U.length) : ∃ p, p ∈ U ∧ p ∉ kn := Classical.byContradiction fun z => by
  have hs : ∀ x, x ∈ U → x ∈ kn := fun x hx => Classical.byContradiction fun e => z ⟨x, hx, e⟩
  have a := nd_le _ _ hU hs
  have b := nd_le _ _ h.nd fun x hx => ((h.mem x).mp hx).1
  omega
end
end Pw

set_option Elab.async false
set_option linter.all false
set_option maxRecDepth 100000
set_option maxHeartbeats 4000000
/-! dict comprehensions whose keys are tuples -/
namespace Pw
open PySem PySem.Spec PyProof.Rows L2
section
variable {X : Cx}
/-- what D[y] = z leaves -/
def PutT (D : Addr) (y z : V) (G G' : Hp) : Prop := ∃ kvs k b, y = .ref b ∧ G D = some (.dT kvs) ∧ G b = some (.tup (k.map kV)) ∧ kvs.length < sizeLine ∧ G' = upd G D (.dT (putK kvs k z))
theorem put_dT {pins : List (Addr × Obj)} {τ : L2.St} {G G' : Hp} {s : Shared} {E : Value → Shared → Prop} {D : Addr} {y z : V} {u r : Value} {Q : Unit → Shared → Prop} (hu : X.A.units < cLine) (I : Inv X pins τ G s) (p : PutT D y z G G') (ry : RelV y u) (rz : RelV z r)
    (h : ∀ s', Inv X pins τ G' s' → Q () s') : wpAny (model X.prog X.w) X.A (dictSet D u r) Q E s := by
  obtain ⟨kvs, k, b, rfl, e, eb, l, rfl⟩ := p
  obtain rfl : u = Value.ref b := ry
  obtain ⟨z1, hd, xs, rel, dd⟩ := dt_of I.hok e
  refine wpAny_dictSet_heap (hsz := (Paired.length rel) ▸ z1) hu (key_of I.hok eb) dd fun h' dd' hs => h _ ?_
  obtain ⟨q, es, ep, hq, h2, h3, h4, _, h5⟩ := dd'
  have le : (putK kvs k z).length ≤ sizeLine := Nat.le_trans (length_putK kvs k z) l
  exact d_write I (by rw [e]; exact True.intro) hs ⟨q, hq⟩ ⟨le, hd, _, (rel.put k eb rz).keeps fun c ys ec => (upd_ne (ne_of ec e (fun z => nomatch z))).trans ec, q, es, ep, hq, h2, h3, h4, h5⟩
def tDcT (wi : TI) (g : TG) (tt : TT) (tk tv : TE) (own : List Nat) : TE := fun τ G Q => wi τ G fun J G1 => ∀ D, G1 D = none → ∃ W : Nat → Nat → Hp → Prop, (∃ m, W 0 m (upd G1 D (.dT []))) ∧ ∀ i m G, W i m G →
  (J.stop i G ∧ Q (.ref D) G) ∨ (J.go i G ∧ ∃ Nx : Hp → Prop, (∀ G', Nx G' → ∃ m', m' < m ∧ W (i + 1) m' G') ∧ ∀ x G', J.yld i G x G' → g x (wipe τ own) G' fun τ2 G2 => wipe τ2 own = wipe τ own ∧ tt τ2 G2 fun b G3 =>
    if b = true then tk τ2 G3 fun y G4 => tv τ2 G4 fun z G5 => ∃ G6, PutT D y z G5 G6 ∧ Nx G6 else Nx G3)
variable {kx vx tgt itr : Expr} {cs : List Expr} {sc : Scope} {mine : List (Str × Nat)} {ps ps' : Pos} {wi : TI} {g : TG} {tt : TT} {tk tv : TE}
/-- what a comprehension's block is made of -/
structure DcIn (X : Cx) (kx vx tgt itr : Expr) (cs : List Expr) (sc : Scope) (mine : List (Str × Nat)) (wi : TI) (g : TG) (tt : TT) (tk tv : TE) : Prop where
  calm : X.calm = true
  un : X.A.units < cLine
  nd : X.N.Nodup
  it : PI X tgt itr wi
  ok : BlkOk X.N X.env.scope sc mine
  tg : ∀ (s : Shared) (G : Hp) (C : Addr) (cl : List (Str × Addr)) (fp : List Addr), PG (X.blk s G sc (compEnvC sc cl C X.env) fp) tgt g
  ts : ∀ (s : Shared) (G : Hp) (C : Addr) (cl : List (Str × Addr)) (fp : List Addr), PTs (X.blk s G sc (compEnvC sc cl C X.env) fp) cs tt
  ky : ∀ (s : Shared) (G : Hp) (C : Addr) (cl : List (Str × Addr)) (fp : List Addr), PE (X.blk s G sc (compEnvC sc cl C X.env) fp) kx tk
  vl : ∀ (s : Shared) (G : Hp) (C : Addr) (cl : List (Str × Addr)) (fp : List Addr), PE (X.blk s G sc (compEnvC sc cl C X.env) fp) vx tv
  fold : ∀ x, foldedSetIterable itr X.env x = pure x
theorem dcT_core (M : DcIn X kx vx tgt itr cs sc mine wi g tt tk tv) {pins : List (Addr × Obj)} {s : Shared} {τ : L2.St} {G : Hp} {Q : VK} {fin : Option (Value → Sem Unit)} {R : Value → Shared → Prop} (I : Inv X pins τ G s) (h : tDcT wi g tt tk tv (mine.map (·.2)) τ G Q)
    (hR : ∀ D C s' m G', Inv X pins τ G' s' → Q (.ref D) G' → s'.heap.Ns C m → FpOk X pins G' C → compPost (model X.prog X.w) X.A X.xe fin R (.ref D) C (.ok .next) s') :
    wpAny (model X.prog X.w) X.A (comprehension (.DictComp kx vx [⟨tgt, itr, cs, 0⟩] sc ps) sc X.env ps' newDict false (eval itr X.env) fin) R X.xe s := by
  have free : ∀ y ∈ sc.names, y.2 = .free → ∃ c, X.env.cells.lookup y.1 = some c := fun y hy e => (M.ok.free y hy e).elim (fun z => I.ok.has _ (.inl z)) fun z => I.ok.has _ (.inr z)
  refine wpAny_comprehension_free (use := fin) rfl M.fold (closure_ok free) M.ok.kind (fun y hy e => by rw [M.ok.uniq y hy, e]) (thn (M.it.run pins s τ G _ I h) fun xv s1 hx => thn hx fun itv s2 h2 => ?_)
  obtain ⟨a, fp, tn, J, G2, rfl, I2, T, st2, f2, q⟩ := h2
  refine wpAny_newObj_type (newEnv_comp ?_)
  have new : ∃ D, s2.heap.objs.size = D := ⟨_, rfl⟩
  obtain ⟨D, hD⟩ := new
  rw [hD]
  obtain ⟨W, ⟨m0, w0⟩, turn⟩ := q D (I2.hok.fresh (Nat.le_of_eq hD))
  obtain ⟨s3, hs3⟩ : ∃ s3 : Shared, ({ s2 with heap := s2.heap.push { cls := .type "dict", data := .dict #[] } } : Shared) = s3 := ⟨_, rfl⟩
  rw [hs3]
  have e3 : s3.heap = s2.heap.push { cls := .type "dict", data := .dict #[] } := by rw [← hs3]
  obtain ⟨G3, hG3⟩ : ∃ G3, upd G2 D (.dT []) = G3 := ⟨_, rfl⟩
  have I3 : Inv X pins τ G3 s3 := by
    rw [← hs3, ← hG3]
    exact I2.laid (t' := s2.toks) (fun b o e => Heap.get?_push_of_some _ e) (Nat.le_of_eq hD) (by rw [← hD]; exact dt_empty s2.heap I2.big)
  have far : ∀ b ∈ fp, FpOk X pins G3 b ∧ b < s3.heap.objs.size := fun b hb => by
    obtain ⟨o, e, _⟩ := T.obj _ _ st2 b hb
    have lt := Heap.lt_size e
    refine ⟨⟨?_, (f2 b hb).2⟩, by rw [e3, Heap.size_push]; exact Nat.lt_succ_of_lt lt⟩
    rw [← hG3, upd_ne (by rw [← hD]; exact Nat.ne_of_lt lt)]
    exact (f2 b hb).1
  have st3 : tn 0 s3.heap := T.keep _ _ _ st2 fun b _ o e => by rw [e3]; exact Heap.get?_push_of_some _ e
  have I4 := block_start I3 M.ok M.nd far
  rw [hG3] at w0
  have pg := M.tg s3 G3 s3.heap.objs.size (cellsFrom (s3.heap.objs.size + 1) sc.names (cloFrom X.env.cells sc.names [])) fp
  have pt := M.ts s3 G3 s3.heap.objs.size (cellsFrom (s3.heap.objs.size + 1) sc.names (cloFrom X.env.cells sc.names [])) fp
  have pk := M.ky s3 G3 s3.heap.objs.size (cellsFrom (s3.heap.objs.size + 1) sc.names (cloFrom X.env.cells sc.names [])) fp
  have pv := M.vl s3 G3 s3.heap.objs.size (cellsFrom (s3.heap.objs.size + 1) sc.names (cloFrom X.env.cells sc.names [])) fp
  show codeAny _ _ (.compStart (.DictComp kx vx [⟨tgt, itr, cs, 0⟩] sc ps) 0 (.ref a) (.ref D) (compEnvC sc (cellsFrom (s3.heap.objs.size + 1) sc.names (cloFrom X.env.cells sc.names [])) s3.heap.objs.size X.env)) (compPost (model X.prog X.w) X.A X.xe fin R (.ref D) s3.heap.objs.size) { s3 with heap := pushCells (s3.heap.push { cls := .type "dict", data := .dict #[] }) sc.names }
  obtain ⟨ce, hce⟩ : ∃ ce, compEnvC sc (cellsFrom (s3.heap.objs.size + 1) sc.names (cloFrom X.env.cells sc.names [])) s3.heap.objs.size X.env = ce := ⟨_, rfl⟩
  rw [hce] at I4 pg pt pk pv ⊢
  have loc : ce.locals = s3.heap.objs.size := by rw [← hce]; rfl
  obtain ⟨s4, hs4⟩ : ∃ s4 : Shared, ({ s3 with heap := pushCells (s3.heap.push { cls := .type "dict", data := .dict #[] }) sc.names } : Shared) = s4 := ⟨_, rfl⟩
  rw [hs4] at I4 ⊢
  have st4 : tn 0 s4.heap := T.keep _ _ _ st3 fun b _ o e => by rw [← hs4]; exact pushCells_keeps _ _ _ _ (Heap.get?_push_of_some _ e)
  have stat : ∀ {τ' : L2.St} {G' : Hp} {s' : Shared}, Inv (X.blk s3 G3 sc ce fp) [] τ' G' s' → (∀ b ∈ fp, G' b = none) → ∀ b ∈ fp, FpOk (X.blk s3 G3 sc ce fp) [] G' b := fun I' n b hb =>
    ⟨n b hb, (I'.ok.exf b hb).1, I'.ok.exfs b hb, .inl hb, fun x c e => (I'.ok.exf b hb).2 x c e, fun p hp => nomatch (show p ∈ ([] : List (Addr × Obj)) from hp)⟩
  -- a turn that ends well
  have ends : ∀ {i n m : Nat} {Nx : Hp → Prop} {s7 s' : Shared} {τ8 : L2.St} {G' : Hp}, (∀ G', Nx G' → ∃ m', m' < m ∧ W (i + 1) m' G') → tn (i + 1) s7.heap → wipe τ8 (mine.map (·.2)) = wipe τ (mine.map (·.2)) → Inv (X.blk s3 G3 sc ce fp) ([] ++ pinsAt fp s7.heap) τ8 G' s' → Nx G' →
      ∃ m', m' < m ∧ ∃ i G', Inv (X.blk s3 G3 sc ce fp) [] (wipe τ (mine.map (·.2))) G' s' ∧ tn i s'.heap ∧ (∀ b ∈ fp, G' b = none) ∧ W i m' G' := fun {i n m Nx s7 s' τ8 G'} hN st7 hw I' nx => by
    obtain ⟨m', hm, w'⟩ := hN G' nx
    have pin : ∀ b ∈ fp, ∀ o, s7.heap.get? b = some o → s'.heap.get? b = some o ∧ G' b = none := fun b hb o e => ⟨(I'.pin (b, o) (List.mem_append_right _ (List.mem_append_right _ (mem_pinsAt hb e)))).1, (I'.pin (b, o) (List.mem_append_right _ (List.mem_append_right _ (mem_pinsAt hb e)))).2.1⟩
    refine ⟨m', hm, i + 1, G', (I'.unpinned (pins := [])).weak (by rw [← hw, wipe_length]) (fun j v e => ?_), T.keep _ _ _ st7 fun b hb o e => (pin b hb o e).1, fun b hb => ?_, w'⟩
    · rw [← hw] at e
      exact (wipe_some e).1
    · obtain ⟨o, e, _⟩ := T.obj _ _ st7 b hb
      exact (pin b hb o e).2
  have loop : codeAny (model X.prog X.w) X.A (.compLoop (.DictComp kx vx [⟨tgt, itr, cs, 0⟩] sc ps) 0 (.ref a) (.ref D) ce) (compPost (model X.prog X.w) X.A X.xe fin R (.ref D) s3.heap.objs.size) s4 := by
    refine compLoop_anyD (fun n s' => ∃ i G', Inv (X.blk s3 G3 sc ce fp) [] (wipe τ (mine.map (·.2))) G' s' ∧ tn i s'.heap ∧ (∀ b ∈ fp, G' b = none) ∧ W i n G') ?_ m0 ⟨0, G3, I4, st4, (fun b hb => (far b hb).1.1), w0⟩
    rintro n s5 ⟨i, G5, I5, st5, n5, w5⟩
    rcases turn i n G5 w5 with ⟨stop, qq⟩ | ⟨go, Nx, hN, step⟩
    · refine thnF (T.done (X.blk s3 G3 sc ce fp) rfl rfl rfl M.calm i [] s5 _ G5 (fun _ _ => False) I5 (stat I5 n5) st5 stop) fun r s6 ⟨hr, I6⟩ => ?_
      subst hr
      have nC : G5 s3.heap.objs.size = none := loc ▸ (show G5 ce.locals = none from I6.free)
      obtain ⟨m, hn, _⟩ := I6.loc
      have hn : s6.heap.Ns s3.heap.objs.size m := loc ▸ (show s6.heap.Ns ce.locals m from hn)
      exact hR D s3.heap.objs.size s6 m G5 (I3.call' (ch := fp) I6.os I6.base I6.hok I6.bare fun b hb => ⟨(far b hb).1.2.2.2.1, (far b hb).1.2.1, (far b hb).1.2.2.2.2.1, (far b hb).1.2.2.2.2.2⟩) qq hn (I3.fpOk (Nat.le_refl _) nC)
    · refine thnF (T.item (X.blk s3 G3 sc ce fp) rfl rfl rfl M.calm i [] s5 _ G5 (fun _ _ => False) I5 (stat I5 n5) st5 go) fun r s6 ⟨u, hr, h6⟩ => ?_
      subst hr
      refine thnF h6 fun _ s7 ⟨x, G7, I7, r7, y7, st7, n7⟩ => thnF (pg.run _ s7 _ G7 x u _ (I7.pinned (stat I7 n7) (T.obj _ _ st7)) r7 (step x G7 y7)) fun _ s8 ⟨τ8, G8, I8, hw8, q8⟩ => thnF (pt.run _ s8 τ8 G8 _ I8 q8) fun b s9 ⟨G9, I9, q9⟩ => ?_
      dsimp only at q9 ⊢
      by_cases hb : b = true
      · rw [if_pos hb] at q9 ⊢
        exact thnF (pk.run _ s9 τ8 G9 _ I9 q9) fun z s10 ⟨yk, G10, I10, r10, q10⟩ => thnF (pv.run _ s10 τ8 G10 _ I10 q10) fun z2 s11 ⟨yv, G11, I11, r11, G12, hp, nx⟩ => put_dT (X := X.blk s3 G3 sc ce fp) M.un I11 hp r10 r11 fun s12 I12 => ends (n := n) hN st7 hw8 I12 nx
      · rw [if_neg hb] at q9 ⊢
        exact ends (n := n) hN st7 hw8 I9 q9
  exact codeAny_compStart_dict loop (T.self X.A 0 _ _ _ st4 loop)
/-- {k: v for .. in .. if ..}, the keys tuples -/
theorem pe_dcT (M : DcIn X kx vx tgt itr cs sc mine wi g tt tk tv) : PE X (.DictComp kx vx [⟨tgt, itr, cs, 0⟩] sc ps) (tDcT wi g tt tk tv (mine.map (·.2))) := by
  refine ⟨fun pins s τ G Q I h => ?_⟩
  rw [arm_eval_DictComp]
  refine dcT_core M I h fun D C s' m G' I' q hn f => ⟨m, hn, fun h'' sb => ?_⟩
  obtain ⟨f0, f1, f2, f3, f4, f5⟩ := f
  exact ⟨.ref D, G', I'.turned (t' := s'.toks) (fun b o hb e => (sb.2 b hb).trans e) f0 f1 f3 f4 f5, rfl, q⟩
/-- y = {k: v for .. in ..}, the keys tuples -/
theorem ps_setDcT {i : Nat} {y : Str} {py spos : Pos} (M : DcIn X kx vx tgt itr cs sc mine wi g tt tk tv) (hy : X.N[i]? = some y) (hyl : X.env.scope.names.lookup y = some .local) (sw : swapsWith (.DictComp kx vx [⟨tgt, itr, cs, 0⟩] sc ps) (some (.Name y py)) spos.line X.env = pure true) :
    PS X (.Assign [.Name y py] (.DictComp kx vx [⟨tgt, itr, cs, 0⟩] sc ps) spos) (tAsg (tDcT wi g tt tk tv (mine.map (·.2))) (gName i)) := by
  refine ⟨fun pins s τ G W I h => ?_⟩
  rw [exec_Assign_Name_used _ _ _ _ sw]
  refine wpAny_bind (wpAny_standAt (wpAny_bind ?_))
  show wpAny _ X.A (do let _ ← comprehension (.DictComp kx vx [⟨tgt, itr, cs, 0⟩] sc ps) sc X.env (firstIterPos [⟨tgt, itr, cs, 0⟩] ps) newDict false (eval itr X.env) (some (assign (.Name y py) X.env))) _ _ s
  have h : tDcT wi g tt tk tv (mine.map (·.2)) τ G (fun x G1 => gName i x τ G1 W.nx) := h
  refine wpAny_bind (thn (dcT_core (R := fun _ s' => SP X pins W .next s') M I h fun D C s' m G' I' q hn f => ?_) fun _ s' hq => wpAny_pure (wpAny_pure hq))
  show wpAny _ _ (assign (.Name y py) X.env (.ref D)) _ _ _
  refine wpAny_assign_Name (store_ok2 (v := V.ref D) I' M.nd hy (.inl hyl) rfl (fun s2 I2 ⟨a, sb, ha⟩ => ?_) (.inr hyl))
  obtain ⟨f0, f1, f2, f3, f4, f5⟩ := f
  exact ⟨m, hn.sameBut sb (ha.elim (fun z => by rw [z]; exact f1) fun z e => f4 y a z e.symm), fun h3 sb3 => ⟨_, G', I2.turned (t' := s2.toks) (fun b o hb e => (sb3.2 b hb).trans e) f0 f1 f3 f4 f5, q⟩⟩
theorem sw_dT {gs : List Comprehension} {pos py : Pos} {y : Str} {l : Nat} {env : Env} (hk : env.scope.kind = .function) (hy : env.scope.names.lookup y = some .local) (hl : (py.line == pos.line) = true)
    (ha : (sc.names.any fun (n, k) => n == y && (k == .local || k == .cell)) = false) : swapsWith (.DictComp kx vx gs sc pos) (some (.Name y py)) l env = pure true := by
  have e1 : env.kindOf y = some .local := hy
  have e2 : env.blockKind = .function := by unfold Env.blockKind; rw [hk]; rfl
  unfold swapsWith
  simp only [e2, e1, ha, Expr.pos, hl]
  rfl
end
end Pw

set_option Elab.async false
set_option linter.all false
set_option maxRecDepth 100000
set_option maxHeartbeats 4000000
/-! max and min of a pair of numbers; (number, text) < (number, text) -/
namespace Pw
open PySem PySem.Spec PyProof.Rows L2 TL
section
variable {X : Cx}
def rMaxP (K : PySem.W.Frag) : List V → Hp → VK → Prop := fun vs H Q => ∃ (a : Addr) (i j : Int), vs = [V.ref a] ∧ SqT K H a [.int i, .int j] ∧ Q (.int (if i < j then j else i)) H
def rMinP (K : PySem.W.Frag) : List V → Hp → VK → Prop := fun vs H Q => ∃ (a : Addr) (i j : Int), vs = [V.ref a] ∧ SqT K H a [.int i, .int j] ∧ Q (.int (if j < i then j else i)) H
theorem cr_maxP (hc : X.calm = true) (hu : X.A.units + 64 < cLine) : CallR X (.builtin "max") (rMaxP X.K) := by
  intro pins s σ H vs us Q I r h
  obtain ⟨a, i, j, rfl, hs, q⟩ := h
  obtain ⟨its, rv, hl, _⟩ := I.tuple hs
  rw [Vals.ref1 r]
  have ri : IntsAre its.toArray.toList [i, j] := intsAre_of (ns := [i, j]) (by simpa using rv)
  refine PySem.W.max_tuple_datum (x := i) (xs := [j]) (I.ok.hd hc) hl (PySem.W.HoldAll.of_ints ri) ?_ fun k v h' tk hi hv hk => ?_
  · have : PySem.W.Datum.depth Int = 0 := rfl
    omega
  · have e : ∃ t, v = .int (PySem.W.maxOf i [j]) t := by
      obtain ⟨as, ha⟩ := hv
      cases ha
      exact ⟨_, rfl⟩
    obtain ⟨t, rfl⟩ := e
    have em : PySem.W.maxOf i [j] = if i < j then j else i := by
      show (if decide (i < j) = true then j else i) = _
      by_cases c : i < j
      · rw [if_pos c, decide_eq_true c, if_pos rfl]
      · rw [if_neg c, decide_eq_false c, if_neg (by decide)]
    exact ⟨.int _, H, I.kept hk, ⟨_, rfl⟩, by rw [em]; exact q⟩
theorem cr_minP (hc : X.calm = true) (hu : X.A.units + 64 < cLine) : CallR X (.builtin "min") (rMinP X.K) := by
  intro pins s σ H vs us Q I r h
  obtain ⟨a, i, j, rfl, hs, q⟩ := h
  obtain ⟨its, rv, hl, _⟩ := I.tuple hs
  rw [Vals.ref1 r]
  have ri : IntsAre its.toArray.toList [i, j] := intsAre_of (ns := [i, j]) (by simpa using rv)
  refine PySem.W.min_tuple_datum (x := i) (xs := [j]) (I.ok.hd hc) hl (PySem.W.HoldAll.of_ints ri) ?_ fun k v h' tk hi hv hk => ?_
  · have : PySem.W.Datum.depth Int = 0 := rfl
    omega
  · have e : ∃ t, v = .int (PySem.W.minOf i [j]) t := by
      obtain ⟨as, ha⟩ := hv
      cases ha
      exact ⟨_, rfl⟩
    obtain ⟨t, rfl⟩ := e
    have em : PySem.W.minOf i [j] = if j < i then j else i := by
      show (if decide (j < i) = true then j else i) = _
      by_cases c : j < i
      · rw [if_pos c, decide_eq_true c, if_pos rfl]
      · rw [if_neg c, decide_eq_false c, if_neg (by decide)]
    exact ⟨.int _, H, I.kept hk, ⟨_, rfl⟩, by rw [em]; exact q⟩
/-- (number, text) < (number, text) -/
def rLtIS (K : PySem.W.Frag) : R2 := fun x y H Q => ∃ (a b : Addr) (i j : Int) (u v : Str), x = .ref a ∧ y = .ref b ∧ SqT K H a [.int i, .str u] ∧ SqT K H b [.int j, .str v] ∧ Q (.bl (decide (i < j ∨ (i = j ∧ tl u < tl v)))) H
theorem op_ltIS (hu : X.A.units + 64 < cLine) : OpR X (compareOp .Lt) (rLtIS X.K) := by
  intro pins s σ H x y v u Q I rx ry h
  obtain ⟨a, b, i, j, z, zz, rfl, rfl, ha, hb, q⟩ := h
  cases rx
  cases ry
  obtain ⟨its, r1, p1, _⟩ := I.tuple ha
  obtain ⟨its2, r2, p2, _⟩ := I.tuple hb
  have hold : ∀ {l : Addr} {its : List Value} {i : Int} {z : Str}, Vals [.int i, .str z] its → s.heap.IsTuple l its.toArray → PySem.W.Holds s.heap (.ref l) ((i, z) : Int × Str) := fun {l its i z} r p => by
    cases r with
    | cons r1 r2 =>
      cases r2 with
      | cons r2 r3 =>
        cases r3
        obtain ⟨t1, rfl⟩ := r1
        obtain ⟨t2, rfl⟩ := r2
        obtain ⟨o, h1, h2, n, h3⟩ := p
        exact ⟨_, .tuple h1 h2 h3 (.cons (.int _ _) (.cons (.str _ _) .nil))⟩
  refine PySem.W.lt_datum (hold r1 p1) (hold r2 p2) ?_ ?_
  · have : PySem.W.Datum.depth (Int × Str) ≤ 60 := by decide
    omega
  · have e : PySem.W.DatumOrd.lt ((i, z) : Int × Str) (j, zz) = decide (i < j ∨ (i = j ∧ tl z < tl zz)) := by
      show (if i = j then decide (z.cps.toList < zz.cps.toList) else decide (i < j)) = _
      by_cases c : i = j
      · rw [if_pos c]
        by_cases d : z.cps.toList < zz.cps.toList
        · rw [decide_eq_true d, decide_eq_true (.inr ⟨c, d⟩)]
        · rw [decide_eq_false d, decide_eq_false (fun w => w.elim (fun w => by omega) (fun w => d w.2))]
      · rw [if_neg c]
        by_cases d : i < j
        · rw [decide_eq_true d, decide_eq_true (.inl d)]
        · rw [decide_eq_false d, decide_eq_false (fun w => w.elim d (fun w => c w.1))]
    rw [e]
    exact ⟨.bl _, H, I, rfl, q⟩
end
end Pw

set_option Elab.async false
set_option linter.all false
set_option maxRecDepth 100000
set_option maxHeartbeats 4000000
/-! max of a list of numbers, with and without a default -/
namespace Pw
open PySem PySem.Spec PyProof.Rows L2 TL
section
variable {X : Cx}
/-- m is the greatest of ns -/
def Grt (ns : List Int) (m : Int) : Prop := m ∈ ns ∧ ∀ y, y ∈ ns → y ≤ m
theorem maxOf_grt : ∀ (r : List Int) (n : Int), Grt (n :: r) (PySem.W.maxOf n r)
  | [], n => ⟨List.mem_cons_self .., fun y hy => by rw [List.mem_singleton.mp hy]; exact Int.le_refl _⟩
  | x :: r, n => by
    have e : PySem.W.maxOf n (x :: r) = PySem.W.maxOf (if decide (n < x) = true then x else n) r := rfl
    obtain ⟨h1, h2⟩ := maxOf_grt r (if decide (n < x) = true then x else n)
    rw [e]
    have c : (if decide (n < x) = true then x else n) = n ∨ (if decide (n < x) = true then x else n) = x := by split <;> simp
    have d : n ≤ (if decide (n < x) = true then x else n) ∧ x ≤ (if decide (n < x) = true then x else n) := by
      by_cases z : n < x
      · rw [decide_eq_true z, if_pos rfl]
        omega
      · rw [decide_eq_false z, if_neg (by decide)]
        omega
    generalize (if decide (n < x) = true then x else n) = a at h1 h2 c d ⊢
    refine ⟨?_, fun y hy => ?_⟩
    · rcases List.mem_cons.mp h1 with z | z
      · rw [z]
        rcases c with rfl | rfl
        · exact List.mem_cons_self ..
        · exact List.mem_cons_of_mem _ (List.mem_cons_self ..)
      · exact List.mem_cons_of_mem _ (List.mem_cons_of_mem _ z)
    · have ha := h2 a (List.mem_cons_self ..)
      rcases List.mem_cons.mp hy with rfl | z
      · omega
      · rcases List.mem_cons.mp z with rfl | z
        · omega
        · exact h2 y (List.mem_cons_of_mem _ z)
def rMax0 (K : PySem.W.Frag) : List V → List V → Hp → VK → Prop := fun vs zs H Q => ∃ (a : Addr) (ns : List Int) (z : Int), vs = [V.ref a] ∧ zs = [.int z] ∧ SqL K H a (ns.map V.int) ∧ (ns = [] → Q (.int z) H) ∧ ∀ m, Grt ns m → Q (.int m) H
theorem crk_max (hc : X.calm = true) (hu : X.A.units + 64 < cLine) : CallRK X (.builtin "max") ["default"] (rMax0 X.K) := by
  intro pins s σ H vs zs us ws Q I r rz h
  obtain ⟨a, ns, z, rfl, rfl, hs, q0, q⟩ := h
  obtain ⟨its, rv, hl, _⟩ := I.list hs
  rw [Vals.ref1 r]
  obtain ⟨u, rfl, ru⟩ := rz.one
  have ri : IntsAre its.toArray.toList ns := by simpa using rv.ints
  refine PySem.W.max_list_datum_default (xs := ns) (I.ok.hd hc) hl.isList (PySem.W.HoldAll.of_ints ri) ?_ (fun e h' tk hk => ⟨.int z, H, I.kept hk, ru, q0 e⟩) fun y ys k v h' tk e hi hv hk => ?_
  · have : PySem.W.Datum.depth Int = 0 := rfl
    omega
  · subst e
    obtain ⟨t, rfl⟩ : ∃ t, v = .int (PySem.W.maxOf y ys) t := by
      obtain ⟨as, ha⟩ := hv
      cases ha
      exact ⟨_, rfl⟩
    exact ⟨.int _, H, I.kept hk, ⟨_, rfl⟩, q _ (maxOf_grt ys y)⟩
def rMaxG (K : PySem.W.Frag) : List V → Hp → VK → Prop := fun vs H Q => ∃ (a : Addr) (n : Int) (ns : List Int), vs = [V.ref a] ∧ SqL K H a ((n :: ns).map V.int) ∧ ∀ m, Grt (n :: ns) m → Q (.int m) H
theorem cr_maxG (hc : X.calm = true) (hu : X.A.units + 64 < cLine) : CallR X (.builtin "max") (rMaxG X.K) := by
  intro pins s σ H vs us Q I r h
  obtain ⟨a, n, ns, rfl, hs, q⟩ := h
  obtain ⟨its, rv, hl, _⟩ := I.list hs
  rw [Vals.ref1 r]
  have ri : IntsAre its.toArray.toList (n :: ns) := by simpa using rv.ints
  refine PySem.W.max_list_datum (x := n) (xs := ns) (I.ok.hd hc) hl.isList (PySem.W.HoldAll.of_ints ri) ?_ fun k v h' tk hi hv hk => ?_
  · have : PySem.W.Datum.depth Int = 0 := rfl
    omega
  · obtain ⟨t, rfl⟩ : ∃ t, v = .int (PySem.W.maxOf n ns) t := by
      obtain ⟨as, ha⟩ := hv
      cases ha
      exact ⟨_, rfl⟩
    exact ⟨.int _, H, I.kept hk, ⟨_, rfl⟩, q _ (maxOf_grt ns n)⟩
end
end Pw

set_option Elab.async false
set_option linter.all false
set_option maxRecDepth 100000
set_option maxHeartbeats 4000000
/-! dicts with tuple keys, told by their keys and a function; lists of tuples; ways -/
namespace Pw
open PySem PySem.Spec PyProof.Rows L2
abbrev KL := List Key
/-- all but x stays -/
def OffX (x : Addr) (G G' : Hp) : Prop := ∀ b o, G b = some o → b ≠ x → G' b = some o
theorem off_upd {G : Hp} {x : Addr} {o : HO} : OffX x G (upd G x o) := fun b _ e n => (upd_ne n).trans e
theorem off_same {G G' : Hp} {x : Addr} (s : L2.Same G G') : OffX x G G' := fun b o e _ => s b o e
theorem OffX.trans {x : Addr} {G G1 G2 : Hp} (a : OffX x G G1) (b : OffX x G1 G2) : OffX x G G2 := fun c o e n => b c o (a c o e n) n
theorem OffX.tup {x : Addr} {G G' : Hp} (h : OffX x G G') (hx : ∀ ys, G x ≠ some (.tup ys)) {b : Addr} {ys : List V} (e : G b = some (.tup ys)) : G' b = some (.tup ys) := h b _ e fun z => hx ys (z ▸ e)
/-- a dict with the keys U, at k the value f k -/
def DcK (G : Hp) (d : Addr) (U : List KL) (f : KL → V) : Prop := ∃ kvs, G d = some (.dT kvs) ∧ kvs.map (·.1) = U ∧ ∀ k, k ∈ U → valV kvs k = some (f k)
theorem DcK.nil {G : Hp} {d : Addr} {f : KL → V} (e : G d = some (.dT [])) : DcK G d [] f := ⟨[], e, rfl, fun _ h => nomatch h⟩
theorem DcK.keep {G G' : Hp} {x d : Addr} {U : List KL} {f : KL → V} (h : DcK G d U f) (s : OffX x G G') (n : d ≠ x) : DcK G' d U f := let ⟨kvs, e, r⟩ := h; ⟨kvs, s _ _ e n, r⟩
theorem DcK.same {G G' : Hp} {d : Addr} {U : List KL} {f : KL → V} (h : DcK G d U f) (s : L2.Same G G') : DcK G' d U f := let ⟨kvs, e, r⟩ := h; ⟨kvs, s _ _ e, r⟩
theorem DcK.ext {G : Hp} {d : Addr} {U : List KL} {f g : KL → V} (h : DcK G d U f) (e : ∀ k, k ∈ U → f k = g k) : DcK G d U g := let ⟨kvs, a, b, c⟩ := h; ⟨kvs, a, b, fun k hk => (c k hk).trans (congrArg some (e k hk))⟩
theorem DcK.get {G : Hp} {d b : Addr} {U : List KL} {f : KL → V} (h : DcK G d U f) {k : KL} (hk : k ∈ U) (eb : G b = some (.tup (k.map kV))) : DGet G d (.ref b) (some (f k)) := by
  obtain ⟨kvs, e, _, v⟩ := h
  rw [← v k hk]
  exact DGet.t e eb
theorem valV_out {kvs : List (KL × V)} {k : KL} (h : k ∉ kvs.map (·.1)) : valV kvs k = none := by
  induction kvs with
  | nil => rfl
  | cons p r ih =>
    rw [valV_neg fun e => h (by rw [← e]; exact List.mem_cons_self ..)]
    exact ih fun z => h (List.mem_cons_of_mem _ z)
theorem keys_put {kvs : List (KL × V)} {k : KL} {v : V} (h : k ∈ kvs.map (·.1)) : (putK kvs k v).map (·.1) = kvs.map (·.1) := by
  unfold putK
  have a : (kvs.any fun kv => decide (kv.1 = k)) = true := by
    obtain ⟨p, hp, e⟩ := List.mem_map.mp h
    exact List.any_eq_true.mpr ⟨p, hp, decide_eq_true e⟩
  rw [if_pos a, List.map_map]
  refine List.map_congr_left fun p _ => ?_
  show (if p.1 = k then (p.1, v) else p).1 = p.1
  split <;> rfl
theorem DcK.len {G : Hp} {d : Addr} {U : List KL} {f : KL → V} (h : DcK G d U f) : ∃ kvs, G d = some (.dT kvs) ∧ kvs.length = U.length := by
  obtain ⟨kvs, e, r, _⟩ := h
  exact ⟨kvs, e, by rw [← r, List.length_map]⟩
/-- a value in its place -/
theorem DcK.put {G : Hp} {d b : Addr} {U : List KL} {f : KL → V} (h : DcK G d U f) {k : KL} (hk : k ∈ U) (eb : G b = some (.tup (k.map kV))) (v : V) (hl : U.length < sizeLine) : ∃ G', DPut G d (.ref b) v G' ∧ OffX d G G' ∧ DcK G' d U (fun j => if j = k then v else f j) ∧ (∀ c, c ≠ d → G' c = G c) := by
  obtain ⟨kvs, e, r, hv⟩ := h
  refine ⟨_, DPut.t e eb (by rw [← r, List.length_map] at hl; exact hl), off_upd, ⟨_, upd_same, (keys_put (by rw [r]; exact hk)).trans r, fun j hj => ?_⟩, fun c n => upd_ne n⟩
  rw [valV_put]
  show _ = some (if j = k then v else f j)
  split
  · rfl
  · exact hv j hj
/-- a new key behind the others -/
theorem DcK.addT {G : Hp} {d b : Addr} {U : List KL} {f : KL → V} (h : DcK G d U f) {k : KL} (hk : k ∉ U) (eb : G b = some (.tup (k.map kV))) (v : V) (hl : U.length < sizeLine) : ∃ G', PutT d (.ref b) v G G' ∧ DPut G d (.ref b) v G' ∧ OffX d G G' ∧ DcK G' d (U ++ [k]) (fun j => if j = k then v else f j) ∧ (∀ c, c ≠ d → G' c = G c) := by
  obtain ⟨kvs, e, r, hv⟩ := h
  have hl' : kvs.length < sizeLine := by rw [← r, List.length_map] at hl; exact hl
  refine ⟨_, ⟨kvs, k, b, rfl, e, eb, hl', rfl⟩, DPut.t e eb hl', off_upd, ⟨_, upd_same, ?_, fun j hj => ?_⟩, fun c n => upd_ne n⟩
  · rw [putK_new v (valV_out (by rw [r]; exact hk)), List.map_append, r]
    rfl
  · rw [valV_put]
    show _ = some (if j = k then v else f j)
    split
    · rfl
    · next z =>
      rcases List.mem_append.mp hj with q | q
      · exact hv j q
      · exact absurd (List.mem_singleton.mp q) z
/-- a list of tuples -/
def LsK (G : Hp) (l : Addr) (ks : List KL) : Prop := ∃ qs : List Addr, G l = some (.lst (qs.map V.ref)) ∧ Paired (fun q (k : KL) => G q = some (.tup (k.map kV))) qs ks
theorem LsK.keep {G G' : Hp} {x l : Addr} {ks : List KL} (h : LsK G l ks) (s : OffX x G G') (n : l ≠ x) (hx : ∀ ys, G x ≠ some (.tup ys)) : LsK G' l ks := let ⟨qs, a, b⟩ := h; ⟨qs, s _ _ a n, Paired.mapP b fun _ _ e => s.tup hx e⟩
theorem LsK.same {G G' : Hp} {l : Addr} {ks : List KL} (h : LsK G l ks) (s : L2.Same G G') : LsK G' l ks := let ⟨qs, a, b⟩ := h; ⟨qs, s _ _ a, Paired.mapP b fun _ _ e => s _ _ e⟩
theorem LsK.len {G : Hp} {l : Addr} {ks : List KL} (h : LsK G l ks) : ∃ qs : List Addr, G l = some (.lst (qs.map V.ref)) ∧ (qs.map V.ref).length = ks.length := let ⟨qs, a, b⟩ := h; ⟨qs, a, by rw [List.length_map]; exact Paired.length b⟩
/-- one more -/
theorem LsK.snoc {G : Hp} {l q : Addr} {ks : List KL} (h : LsK G l ks) {k : KL} (eq : G q = some (.tup (k.map kV))) : ∃ xs, G l = some (.lst xs) ∧ xs.length = ks.length ∧ LsK (upd G l (.lst (xs ++ [.ref q]))) l (ks ++ [k]) := by
  obtain ⟨qs, a, b⟩ := h
  have kp : ∀ c ys, G c = some (.tup ys) → upd G l (.lst (qs.map V.ref ++ [.ref q])) c = some (.tup ys) := fun c ys e => (upd_ne (fun z => by rw [z, a] at e; cases e)).trans e
  refine ⟨_, a, by rw [List.length_map]; exact Paired.length b, qs ++ [q], ?_, Paired.snoc (Paired.mapP b fun _ _ e => kp _ _ e) (kp _ _ eq)⟩
  rw [upd_same, List.map_append]
  rfl
/-- the edges of one place: a list of (label, goal) -/
def EdK (G : Hp) (l : Addr) (es : List KL) : Prop := ∃ ts : List Addr, G l = some (.lst (ts.map V.ref)) ∧ Paired (fun t (g : KL) => ∃ x u, G t = some (.tup [x, .ref u]) ∧ G u = some (.tup (g.map kV))) ts es
theorem EdK.same {G G' : Hp} {l : Addr} {ks : List KL} (h : EdK G l ks) (s : L2.Same G G') : EdK G' l ks := let ⟨qs, a, b⟩ := h; ⟨qs, s _ _ a, Paired.mapP b fun _ _ ⟨x, u, e, e'⟩ => ⟨x, u, s _ _ e, s _ _ e'⟩⟩
theorem EdK.keep {G G' : Hp} {x l : Addr} {ks : List KL} (h : EdK G l ks) (s : OffX x G G') (n : l ≠ x) (hx : ∀ ys, G x ≠ some (.tup ys)) : EdK G' l ks := let ⟨qs, a, b⟩ := h; ⟨qs, s _ _ a n, Paired.mapP b fun _ _ ⟨x, u, e, e'⟩ => ⟨x, u, s.tup hx e, s.tup hx e'⟩⟩
/-- ways: for each place the list of its edges; locked or not -/
def WaysK (G : Hp) (d : Addr) (kvs : List (KL × V)) (U : List KL) (gs : KL → List KL) : Prop := kvs.map (·.1) = U ∧ ∀ k, k ∈ U → ∃ l, valV kvs k = some (.ref l) ∧ l ≠ d ∧ EdK G l (gs k)
theorem WaysK.keep {G G' : Hp} {d : Addr} {kvs : List (KL × V)} {U : List KL} {gs : KL → List KL} (h : WaysK G d kvs U gs) (s : OffX d G G') (hd : ∀ ys, G d ≠ some (.tup ys)) : WaysK G' d kvs U gs := ⟨h.1, fun k hk => let ⟨l, a, b, c⟩ := h.2 k hk; ⟨l, a, b, c.keep s b hd⟩⟩
theorem WaysK.same {G G' : Hp} {d : Addr} {kvs : List (KL × V)} {U : List KL} {gs : KL → List KL} (h : WaysK G d kvs U gs) (s : L2.Same G G') : WaysK G' d kvs U gs := ⟨h.1, fun k hk => let ⟨l, a, b, c⟩ := h.2 k hk; ⟨l, a, b, c.same s⟩⟩
/-- the lists of those that lead to each place -/
structure IntoK (H0 G : Hp) (D : Addr) (U : List KL) (la : KL → Addr) (f : KL → List KL) : Prop where
  dc : DcK G D U fun k => .ref (la k)
  ls : ∀ k, k ∈ U → LsK G (la k) (f k)
  nw : ∀ k, k ∈ U → H0 (la k) = none
  nd : H0 D = none
  inj : ∀ k, k ∈ U → ∀ k', k' ∈ U → la k = la k' → k = k'
section
variable {H0 G G' : Hp} {D : Addr} {U : List KL} {la : KL → Addr} {f f' : KL → List KL}
theorem IntoK.keep {x : Addr} (h : IntoK H0 G D U la f) (s : OffX x G G') (n : D ≠ x) (nl : ∀ k, k ∈ U → la k ≠ x) (hx : ∀ ys, G x ≠ some (.tup ys)) : IntoK H0 G' D U la f := { h with dc := h.dc.keep s n, ls := fun k hk => (h.ls k hk).keep s (nl k hk) hx }
theorem IntoK.same (h : IntoK H0 G D U la f) (s : L2.Same G G') : IntoK H0 G' D U la f := { h with dc := h.dc.same s, ls := fun k hk => (h.ls k hk).same s }
theorem IntoK.ext (h : IntoK H0 G D U la f) (e : ∀ k, k ∈ U → f k = f' k) : IntoK H0 G D U la f' := { h with ls := fun k hk => by rw [← e k hk]; exact h.ls k hk }
/-- one more in the list of g -/
theorem IntoK.snoc (h : IntoK H0 G D U la f) {g k : KL} {q : Addr} (hg : g ∈ U) (eq : G q = some (.tup (k.map kV))) : ∃ xs, G (la g) = some (.lst xs) ∧ xs.length = (f g).length ∧ IntoK H0 (upd G (la g) (.lst (xs ++ [.ref q]))) D U la (fun j => if j = g then f j ++ [k] else f j) := by
  obtain ⟨xs, a, b, c⟩ := (h.ls g hg).snoc eq
  have nx : ∀ ys, G (la g) ≠ some (.tup ys) := fun ys e => by rw [a] at e; cases e
  refine ⟨xs, a, b, ⟨h.dc.keep off_upd fun z => ?_, fun j hj => ?_, h.nw, h.nd, h.inj⟩⟩
  · obtain ⟨kvs, e, _⟩ := h.dc
    rw [z, a] at e
    cases e
  · by_cases e : j = g
    · subst e
      rw [if_pos rfl]
      exact c
    · rw [if_neg e]
      exact (h.ls j hj).keep off_upd (fun z => e (h.inj j hj g hg z)) nx
end
/-! the edges gone through so far -/
section
variable {gs : KL → List KL}
def intoP (U : List KL) (gs : KL → List KL) (i j : Nat) (g : KL) : List KL := intoN (U.take i) gs g ++ (match U[i]? with | some p => (((gs p).take j).filter fun h => decide (h = g)).map fun _ => p | none => [])
theorem intoP_row {U : List KL} {i : Nat} {p : KL} (h : U[i]? = some p) (g : KL) : intoP U gs i (gs p).length g = intoP U gs (i + 1) 0 g := by
  unfold intoP
  rw [h, List.take_add_one, h]
  show intoN (U.take i) gs g ++ (((gs p).take (gs p).length).filter fun h => decide (h = g)).map (fun _ => p) = intoN (U.take i ++ [p]) gs g ++ _
  rw [List.take_length]
  unfold intoN
  rw [List.flatMap_append, List.append_assoc]
  congr 1
  rw [List.flatMap_cons, List.flatMap_nil, List.append_nil]
  have : (match U[i + 1]? with | some p => (((gs p).take 0).filter fun h => decide (h = g)).map fun _ => p | none => []) = ([] : List KL) := by
    split <;> rfl
  rw [this, List.append_nil]
theorem intoP_next {U : List KL} {i j : Nat} {p h : KL} (hp : U[i]? = some p) (hh : (gs p)[j]? = some h) (g : KL) : intoP U gs i (j + 1) g = if g = h then intoP U gs i j g ++ [p] else intoP U gs i j g := by
  unfold intoP
  rw [hp]
  show intoN (U.take i) gs g ++ (((gs p).take (j + 1)).filter fun h => decide (h = g)).map (fun _ => p) = _
  rw [List.take_add_one, hh, List.filter_append, List.map_append, ← List.append_assoc]
  by_cases e : g = h
  · rw [if_pos e, Option.toList_some, List.filter_cons, if_pos (decide_eq_true e.symm)]
    rfl
  · rw [if_neg e, Option.toList_some, List.filter_cons, if_neg (by rw [decide_eq_false fun z => e z.symm]; decide)]
    simp
theorem intoP_end {U : List KL} (g : KL) : intoP U gs U.length 0 g = intoN U gs g := by
  unfold intoP
  rw [List.take_length, List.getElem?_eq_none (Nat.le_refl _)]
  show _ ++ [] = _
  rw [List.append_nil]
theorem intoP_start {U : List KL} (g : KL) : intoP U gs 0 0 g = [] := by
  unfold intoP
  show [] ++ _ = _
  split <;> rfl
theorem intoN_le {g : KL} {B : Nat} : ∀ {U : List KL}, (∀ k, k ∈ U → (gs k).length ≤ B) → (intoN U gs g).length ≤ B * U.length
  | [], _ => Nat.zero_le _
  | p :: U, h => by
    have h1 := intoN_le (g := g) (U := U) fun k hk => h k (List.mem_cons_of_mem _ hk)
    show (((gs p).filter fun h => decide (h = g)).map (fun _ => p) ++ intoN U gs g).length ≤ _
    rw [List.length_append, List.length_map, List.length_cons, Nat.mul_succ]
    have h2 := List.length_filter_le (fun h => decide (h = g)) (gs p)
    have h3 := h p (List.mem_cons_self ..)
    omega
theorem intoP_le {U : List KL} {i j : Nat} {g : KL} {B : Nat} (h : ∀ k, k ∈ U → (gs k).length ≤ B) : (intoP U gs i j g).length ≤ B * U.length + B := by
  unfold intoP
  rw [List.length_append]
  have h1 := intoN_le (g := g) (U := U.take i) fun k hk => h k (List.mem_of_mem_take hk)
  have h2 : B * (U.take i).length ≤ B * U.length := Nat.mul_le_mul_left _ (by rw [List.length_take]; omega)
  have h3 : (match U[i]? with | some p => (((gs p).take j).filter fun h => decide (h = g)).map fun _ => p | none => []).length ≤ B := by
    split
    · next p hp =>
      rw [List.length_map]
      refine Nat.le_trans (List.length_filter_le _ _) (Nat.le_trans ?_ (h p (List.mem_of_getElem? hp)))
      rw [List.length_take]
      omega
    · exact Nat.zero_le _
  omega
end
theorem smallC {n : Nat} (h : n ≤ 100000) : n < sizeLine := Nat.lt_of_le_of_lt h (by decide)
theorem DcK.rd {G : Hp} {d b : Addr} {kvs : List (KL × V)} {k : KL} {v : V} (e : Rd G d (.dT kvs)) (hv : valV kvs k = some v) (eb : G b = some (.tup (k.map kV))) : DGet G d (.ref b) (some v) := .inr ⟨kvs, k, b, e, rfl, eb, hv.symm⟩
theorem max_both {ns : List Int} {R : Int → Prop} (h : ∀ m, (ns = [] ∧ m = 0) ∨ Grt ns m → R m) : (∀ m, Grt ns m → R m) ∧ (ns = [] → R 0) := ⟨fun m hm => h m (.inr hm), fun e => h 0 (.inl ⟨e, rfl⟩)⟩
theorem none_back {H G : Hp} {a : Addr} (s : L2.Same H G) (n : G a = none) : H a = none := by
  cases e : H a with
  | none => rfl
  | some o =>
    rw [s _ _ e] at n
    cases n
theorem unlock {H G : Hp} {d : Addr} {u : HO} {o : Obj} (hd : H d = some u) (s : L2.Same (upd H d (.frz o u)) G) : L2.Same H (upd G d u) := fun b x e => by
  by_cases c : b = d
  · subst c
    rw [upd_same, ← hd, e]
  · rw [upd_ne c]
    exact s _ _ ((upd_ne c).trans e)
theorem nd_take {α : Type} {U : List α} {i : Nat} {k : α} (hU : U.Nodup) (h : U[i]? = some k) : k ∉ U.take i := fun z => by
  obtain ⟨j, hj⟩ := List.getElem?_of_mem z
  rw [List.getElem?_take] at hj
  by_cases c : j < i
  · rw [if_pos c] at hj
    have := (List.getElem?_inj (List.getElem?_eq_some_iff.mp hj).1 hU).mp (hj.trans h.symm)
    omega
  · rw [if_neg c] at hj
    cases hj
theorem take_one {α : Type} {U : List α} {i : Nat} {k : α} (h : U[i]? = some k) : U.take (i + 1) = U.take i ++ [k] := by
  rw [List.take_add_one, h]
  rfl
def ky (r : Nat × Nat) : List Key := [.inl ((r.1 : Nat) : Int), .inl ((r.2 : Nat) : Int)]
theorem ky_inj {r t : Nat × Nat} (h : ky r = ky t) : r = t := by
  unfold ky at h
  have h1 := (List.cons.inj h).1
  have h2 := (List.cons.inj (List.cons.inj h).2).1
  exact Prod.ext (Int.ofNat_inj.mp (Sum.inl.inj h1)) (Int.ofNat_inj.mp (Sum.inl.inj h2))
/-! walks over a dict comprehension -/
theorem dcT_it {J : It} {n : Nat} {Gw : Hp → Prop} {Y : Nat → Hp → V → Hp → Prop} (w : Walk J n Gw Y) {g : TG} {tt : TT} {tk tv : TE} {vs : List Nat} {τ : L2.St} {G1 : Hp} {D : Addr} {Qd : Hp → Prop} (Pv : Nat → Hp → Prop) (h0 : Pv 0 (upd G1 D (.dT []))) (hG : ∀ i H, i ≤ n → Pv i H → Gw H)
    (hs : ∀ i x H H', i < n → Pv i H → Y i H x H' → g x (wipe τ vs) H' fun τ2 G2 => wipe τ2 vs = wipe τ vs ∧ tt τ2 G2 fun b G3 =>
      if b = true then tk τ2 G3 fun y G4 => tv τ2 G4 fun z G5 => ∃ G6, PutT D y z G5 G6 ∧ Pv (i + 1) G6 else Pv (i + 1) G3) (hd : ∀ H, Pv n H → Qd H) :
    ∃ W : Nat → Nat → Hp → Prop, (∃ m, W 0 m (upd G1 D (.dT []))) ∧ ∀ i m G, W i m G →
      (J.stop i G ∧ Qd G) ∨ (J.go i G ∧ ∃ Nx : Hp → Prop, (∀ G', Nx G' → ∃ m', m' < m ∧ W (i + 1) m' G') ∧ ∀ x G', J.yld i G x G' → g x (wipe τ vs) G' fun τ2 G2 => wipe τ2 vs = wipe τ vs ∧ tt τ2 G2 fun b G3 =>
        if b = true then tk τ2 G3 fun y G4 => tv τ2 G4 fun z G5 => ∃ G6, PutT D y z G5 G6 ∧ Nx G6 else Nx G3) := by
  refine ⟨fun i m H => m = n - i ∧ i ≤ n ∧ Pv i H, ⟨n, by simp, Nat.zero_le _, h0⟩, ?_⟩
  rintro i m H ⟨rfl, hi, p⟩
  have q := hG i H hi p
  by_cases hlt : i < n
  · exact .inr ⟨w.goes i H hlt q, Pv (i + 1), fun H' p' => ⟨n - (i + 1), by omega, rfl, hlt, p'⟩, fun x H' y => hs i x H H' hlt p (w.yields i H x H' hlt q y)⟩
  · have e : i = n := by omega
    subst e
    exact .inl ⟨w.stops H q, hd H p⟩
end Pw

set_option Elab.async false
set_option linter.all false
set_option maxRecDepth 100000
set_option maxHeartbeats 4000000
/-! list(d.values()), the keys of d tuples -/
namespace Pw
open PySem PySem.Spec PyProof.Rows L2
section
variable {X : Cx}
theorem boot_listT : bootBuiltins "list" = some (.type "list") := by decide +kernel
theorem vals_at : ∀ {vs : List V} {us : List Value}, vs.length = us.length → (∀ (j : Nat) (v : V) (u : Value), vs[j]? = some v → us[j]? = some u → L2.RelV v u) → Vals vs us
  | [], [], _, _ => .nil
  | v :: vs, u :: us, h, k => .cons (k 0 v u rfl rfl) (vals_at (Nat.succ.inj h) fun j v' u' a b => k (j + 1) v' u' a b)
theorem pe_listVals {e : Expr} {te : TE} {p pos apos cpos : Pos} (hc : X.calm = true) (hg : Gl X "list") (hm : X.mg "list" = none) (he : PE X e te) (hbase : attributeBase e "values" X.env (eval e X.env) = eval e X.env := by rfl) (hline : (apos.endLine == cpos.line) = true := by rfl)
    (na : starEach [(.Call (.Attribute e "values" apos) [] [] cpos : Expr)] X.env = (false, eval (.Call (.Attribute e "values" apos) [] [] cpos) X.env) :: starEach [] X.env := by rfl) :
    PE X (.Call (.Name "list" p) [.Call (.Attribute e "values" apos) [] [] cpos] [] pos) (fun τ G Q => te τ G fun x G1 => ∃ d kvs, x = .ref d ∧ G1 d = some (.dT kvs) ∧ ∀ a, G1 a = none → Q (.ref a) (upd G1 a (.lst (kvs.map (·.2))))) := by
  refine ⟨fun pns s τ G Q I h => ?_⟩
  refine Call_ (ld_blt I hg hm boot_listT ?_)
  refine PyProof.Rows.callWith_type1 (PyProof.Rows.args_cons (wpAny_Call_method (T := "dict") (id := "dict.values") hbase rfl hline F.plainAttrs_dict F.slot_dict_values F.type_dict_values (thn (he.run pns s τ G _ I h) fun u s1 ⟨x, G1, I1, rx, d, kvs, ex, hd, q⟩ => ?_)) na) na rfl
  subst ex
  obtain rfl : u = Value.ref d := rx
  obtain ⟨z, hs, ks, pr, o, es, ep, ho, hx, hdt, hen, hn⟩ := (show ObjOk X.prog X.w G1 s1.heap d (.dT kvs) from I1.hok d _ hd)
  have raw : s1.heap.DictRaw d es ep := ⟨o, ho, hx, hdt⟩
  refine ⟨raw.typeIs, ?_, ?_⟩
  · intro a' ea
    cases ea
    exact ⟨o, ho, hx.2.1⟩
  · have hv : (s1.heap.push { cls := .type "dict_values", data := .fields #[.ref d] }).IsValuesView s1.heap.objs.size d := ⟨_, Heap.get?_push_size _ rfl, rfl, rfl⟩
    have l1 : es.size = ks.length := size_of_entries hen
    have l2 : kvs.length = ks.length := Paired.length pr
    show wpAny _ _ (callWith cpos (.builtin "dict.values") [.ref d] [] []) _ X.xe s1
    refine method_meetsIn F.slot_dict_values F.entry_dict_values rfl (PySem.evalArgs_none ⟨rfl, raw.typeIs, F.args_dict_values_1 _, _, meets_dict_values_raw d hs, ⟨es, ep, raw⟩, ?_⟩)
    refine PyProof.Rows.args_nil ?_
    have I2 : Inv X pns τ G1 { s1 with heap := s1.heap.push { cls := .type "dict_values", data := .fields #[.ref d] } } := I1.kept (t' := s1.toks) fun b ob q => Heap.get?_push_of_some _ q
    refine PySem.W.kdl_call KdlSrc.rawValues (I2.ok.hd hc) ⟨hv, raw.push _⟩ (by omega) fun h' tk acc c kp e2 it => ?_
    have el : acc.toList.length = kvs.length := by rw [Array.length_toList, it.1]; omega
    have rv : Vals (kvs.map (·.2)) acc.toList := by
      refine vals_at (by rw [List.length_map, el]) fun j v u hj hu => ?_
      obtain ⟨hi, eu⟩ := it.2 j u (by rw [← Array.getElem?_toList]; exact hu)
      rw [List.getElem?_map] at hj
      cases hk : kvs[j]? with
      | none =>
        rw [hk] at hj
        cases hj
      | some kv =>
        rw [hk] at hj
        obtain rfl : kv.2 = v := Option.some.inj hj
        obtain ⟨b, hkj, _, _, hr⟩ := paired_get pr hk
        have qe := entry_at hen j
        rw [hkj, Array.getElem?_eq_getElem hi] at qe
        have qe2 : es[j] = entryOfKey (tupleKind (mixKind X.prog X.w)) b := Option.some.inj qe
        rw [eu, qe2]
        exact hr
    have hz : (kvs.map (·.2)).length ≤ sizeLine := by rw [List.length_map]; exact z
    refine ⟨.ref _, _, I2.laid (t' := tk) (o := .lst (kvs.map (·.2))) kp (Nat.le_refl _) ⟨hz, acc.toList, c, rv, by rw [Array.toArray_toList]; exact e2⟩, rfl, q _ (I2.hok.fresh (Nat.le_refl _))⟩
end
end Pw

set_option Elab.async false
set_option linter.all false
set_option maxRecDepth 100000
set_option maxHeartbeats 4000000
/-! the truth of a dict with tuple keys -/
namespace PySem
section
variable {pg : Program} {wo : World} {KK : Type} [DecidableEq KK] {kd : HeapKind pg wo KK} {Ar : Around} {Ex : Value → Shared → Prop} {st : Shared}
theorem truthy_dT {b : Addr} {es : List (KK × Addr × Value)} {R : Bool → Shared → Prop} (nb : (b == sysModules) = false) (hb : st.heap.DictOfH kd b es) (ft : (es.length : Int) < 2 ^ 63) (q : R (!es.isEmpty) { st with toks := st.toks + 1 + 1 }) : wpAny (model pg wo) Ar (truthy (.ref b)) R Ex st := by
  have e0 : ((es.length : Int) != 0) = !es.isEmpty := by cases es with
    | nil => rfl
    | cons a l => simp only [List.length_cons, List.isEmpty_cons, Bool.not_false]; exact bne_iff_ne.mpr (by omega)
  have body : wpAny (model pg wo) Ar (runValue (.builtin "len" ⟨[.ref b], []⟩)) (fun v s2 => v = .int es.length (st.toks + 1) ∧ R (!es.isEmpty) s2) Ex st := by
    refine wpAny_runValue (codeAny_builtin entry_len (by rw [Around.under_plainId plain_len _]; exact wpAny_mono (wpAny_len_body_dictH (Q := fun v s2 => v = .int es.length (st.toks + 1) ∧ R (!es.isEmpty) s2) nb hb ft ⟨rfl, q⟩) (fun fin s2 ⟨v, e, z⟩ => by subst e; exact z) fun _ _ e => e))
  unfold truthy
  first
    | (refine wpAny_bind (wpAny_callSpecial?_none (name := Str.ofString "__bool__") hb.typeIs noBool_dict ?_); skip)
    | (refine wpAny_bind (wpAny_pure (wpAny_bind (wpAny_callSpecial?_none (name := Str.ofString "__bool__") hb.typeIs noBool_dict ?_))); skip)
  first
    | (refine wpAny_bind (wpAny_specialOf (name := Str.ofString "__len__") hb.typeIs F.slot_dict_len.lookup ?_); skip)
    | (refine wpAny_bind (wpAny_pure (wpAny_bind (wpAny_specialOf (name := Str.ofString "__len__") hb.typeIs F.slot_dict_len.lookup ?_))); skip)
  first
    | exact wpAny_bind (wpAny_mono body (fun v s2 z => by obtain ⟨rfl, z2⟩ := z; exact wpAny_pure (e0 ▸ z2)) fun _ _ e => e)
    | exact wpAny_bind (wpAny_pure (wpAny_bind (wpAny_mono body (fun v s2 z => by obtain ⟨rfl, z2⟩ := z; exact wpAny_pure (e0 ▸ z2)) fun _ _ e => e)))
end
end PySem
namespace Pw
open PySem PySem.Spec PyProof.Rows L2
section
variable {X : Cx}
/-- any expression whose value is a dict with tuple keys, as a test -/
theorem pt_dT {a : Expr} {ta : TE} (ha : PE X a ta) (he : ∀ whole, isTrue a X.env whole = (do let v ← whole; standAt a.pos; holding [v] (truthy v))) :
    PT X a (fun σ H Q => ta σ H fun x H' => ∃ (p : Addr) (kvs : List (List Key × V)), x = .ref p ∧ H' p = some (.dT kvs) ∧ Q (!kvs.isEmpty) H') := by
  refine ⟨fun pins s σ H Q I h => isTrue_plain (thn (ha.run pins s σ H _ I h) fun v s1 ⟨x, H1, I1, r1, p, kvs, e, hp, q1⟩ => ?_) (he _)⟩
  subst e
  obtain rfl : v = .ref p := r1
  obtain ⟨z, hd, ys, rel, dd⟩ := dt_of I1.hok hp
  have hl : kvs.length = ys.length := Paired.length rel
  refine truthy_dT hd dd (by rw [← hl]; rw [sizeLine_eq] at z; omega) ?_
  have e2 : (!ys.isEmpty) = !kvs.isEmpty := by
    cases kvs <;> cases ys <;> first | rfl | cases hl
  rw [e2]
  exact ⟨H1, I1.tok _, q1⟩
end
end Pw

set_option Elab.async false
set_option linter.all false
set_option maxRecDepth 100000
/-! rules alike but for the order of their words; the web of all rows, the web of none -/
namespace Pw
open PySem PySem.Builtin PySem.Builtin.Str PySem.StrLaws TL
theorem lawB_perm {xs ys : List Str} {lo : Int} {hi wd : Option Int} {l : List Nat} (h : xs.Perm ys) : lawB xs lo hi wd l = lawB ys lo hi wd l := by
  have e : (xs.any fun y => (fEnd l (tl y)).isSome) = ys.any fun y => (fEnd l (tl y)).isSome := by
    rw [Bool.eq_iff_iff, List.any_eq_true, List.any_eq_true]
    exact ⟨fun ⟨y, hy, z⟩ => ⟨y, h.mem_iff.mp hy, z⟩, fun ⟨y, hy, z⟩ => ⟨y, h.mem_iff.mpr hy, z⟩⟩
  unfold lawB
  rw [e]
theorem lawR_perm {xs ys : List Str} {lo : Int} {hi wd : Option Int} (h : xs.Perm ys) : lawR xs lo hi wd = lawR ys lo hi wd := funext fun x => lawB_perm h
theorem RuleOk.perm {xs ys : List Str} {lo : Int} {hi wd : Option Int} (r : RuleOk xs lo hi wd) (h : ys.Perm xs) : RuleOk ys lo hi wd := ⟨fun x hx => r.ne x (h.mem_iff.mp hx), fun x hx => r.five x (h.mem_iff.mp hx), r.lo0, r.lo3, r.hi, r.wd⟩
theorem law_all (x : List Bool) : lawR [] 0 none none x = true := by
  have r : RuleOk [] 0 none none := ⟨fun x hx => (nomatch hx), fun x hx => (nomatch hx), by decide, by decide, fun h e => (nomatch e), fun s e => (nomatch e)⟩
  exact (r.ok (rw_pure x)).mpr ⟨fun w hw => (nomatch hw), fun s e => (nomatch e)⟩
theorem web_all : WebOf (lawR [] 0 none none) [(some 0, some 0)] := by
  have wk : ∀ x : List Bool, wlk [(some 0, some 0)] 0 x = some 0 := by
    intro x
    induction x with
    | nil => rfl
    | cons c r ih =>
      show (goG [(some 0, some 0)] 0 c).bind (fun j => wlk [(some 0, some 0)] j r) = some 0
      have : goG [(some 0, some 0)] 0 c = some 0 := by cases c <;> rfl
      rw [this]
      exact ih
  have ls : ∀ x, Lst (lawR [] 0 none none) x := fun x n => ⟨List.replicate n false, List.length_replicate .., law_all _⟩
  refine ⟨fun z => absurd (ls []) z, fun _ => Nat.one_pos, fun k c j e => ?_, fun i j hi hj _ => ?_, ⟨fun _ => 0, fun j h0 hj => ?_, fun j e h0 hj => ?_, fun i j h0 hij hj => ?_⟩, fun _ x => ⟨fun _ => ls x, fun _ => by rw [wk]; rfl⟩⟩
  · have hk : k < 1 := go_lt e
    obtain rfl : k = 0 := by omega
    have : goG [(some 0, some 0)] 0 c = some 0 := by cases c <;> rfl
    rw [this] at e
    rw [← Option.some.inj e]
    exact Nat.one_pos
  · have hi : i < 1 := hi
    have hj : j < 1 := hj
    omega
  · have hj : j < 1 := hj
    omega
  · have hj : j < 1 := hj
    omega
  · have hj : j < 1 := hj
    omega
theorem web_none {xs : List Str} {lo : Int} {hi wd : Option Int} (r : RuleOk xs lo hi wd) (h0 : ∃ x ∈ xs, tl x = [48]) (h1 : ∃ x ∈ xs, tl x = [49]) : WebOf (lawR xs lo hi wd) [] := by
  refine WebOf.empty fun l => ?_
  obtain ⟨y, hy, hl⟩ := l 1
  have hk := (r.ok (rw_pure _)).mp hl
  rw [List.nil_append] at hk
  match y, hy with
  | [b], _ =>
    have hin : ∀ w, w ∈ xs.map tl → w ∈ piecesL xs lo hi := fun w hw => List.mem_append_left _ (List.mem_append_left _ hw)
    cases b with
    | false =>
      obtain ⟨x, hx, e⟩ := h0
      exact hk.1 [48] (hin _ (List.mem_map.mpr ⟨x, hx, e⟩)) (List.infix_refl _)
    | true =>
      obtain ⟨x, hx, e⟩ := h1
      exact hk.1 [49] (hin _ (List.mem_map.mpr ⟨x, hx, e⟩)) (List.infix_refl _)
end Pw

set_option Elab.async false
set_option linter.all false
set_option maxRecDepth 100000
set_option maxHeartbeats 4000000
namespace K28
open PySem PySem.Spec PyProof.Rows L2 Pw TL
def topS (i : Nat) : Stmt := PySem.Challenge.pw_pulsewright_k28_memory_of_rules.main.body.getD i (.Pass ⟨0, 0, 0, 0⟩)
section
variable {P : Program} {w : World} {K : PySem.W.Frag} {mg : Str → Option Value} {base : Heap}
theorem same_new {H : Hp} {p : Addr} {o : HO} (h : H p = none) : Same H (upd H p o) := fun b x e => by
  rw [upd_ne (ne_of_none e h)]
  exact e
/-! first_stranger -/
abbrev sFS : Stmt := topS 22
theorem scFS : FnScope ["text", "at", "sign"] ["text"] (defScope sFS) := ⟨rfl, rfl, rfl, by decide +kernel, rfl, by decide +kernel, by decide +kernel⟩
def vOpt : Option Nat → V
  | none => .non
  | some i => .int (i : Nat)
def spFS : Sp := fun vs H Q _ => ∃ x : Str, vs = [.str x] ∧ ∀ H', Same H H' → Q (vOpt (strange (tl x))) H'
theorem one_sign (c : Nat) : (V.str ⟨#[c]⟩ = V.str "0" ↔ c = 48) ∧ (V.str ⟨#[c]⟩ = V.str "1" ↔ c = 49) := by
  constructor
  · constructor
    · intro h
      have h1 : (⟨#[c]⟩ : Str) = "0" := V.str.inj h
      have h2 : [c] = [48] := congrArg tl h1
      exact (List.cons.inj h2).1
    · intro h
      subst h
      rfl
  · constructor
    · intro h
      have h1 : (⟨#[c]⟩ : Str) = "1" := V.str.inj h
      have h2 : [c] = [49] := congrArg tl h1
      exact (List.cons.inj h2).1
    · intro h
      subst h
      rfl
theorem ok_fs {f : Addr} {fd : FuncData} {k : Nat} (F : Fun K "first_stranger" "first_stranger" sFS f fd) (me : mg "enumerate" = none) : FnOk P w K mg base CX0 (k + 1) f fd ["text"] spFS := by
  refine F.ok scFS (fun vs H Q E h => ?_) (fun cdv A outer s H vs Q E hr h => ?_)
  · obtain ⟨x, rfl, _⟩ := h
    rfl
  · obtain ⟨x, rfl, q⟩ := h
    refine ⟨_, pss_cons (ps_for PassesOwn.never rfl (pi_enumS (by rfl) me (pa_cons (pv 0) pa_nil)) (pg_tup rfl (pgs_cons (pg_name (i := 1) scFS.nd rfl (.inl rfl)) (pgs_cons (pg_name (i := 2) scFS.nd rfl (.inl rfl)) pgs_nil)))
        (pss_one (ps_if (PW.pt (pw_and (pt_cmpR op_ne (pv 2) pe_str (nomark _)) (pw_and1 (pt_cmpR op_ne (pv 2) pe_str (nomark _))))) (pss_one (ps_ret (pv 1))) pss_nil)))
      (pss_one (ps_ret pe_non)), ?_⟩
    refine ⟨.str x, rfl, x, rfl, for_enumS (x := x) (fun i σ H1 => (∃ y1 y2, σ = [some (.str x), y1, y2]) ∧ Pure ((tl x).take i) ∧ Same H H1) ⟨⟨none, none, rfl⟩, fun c hc => by simp at hc, Same.refl H⟩ ?_ ?_⟩
    · rintro i c σ H1 T hc ⟨⟨y1, y2, rfl⟩, hp, sm⟩ nT
      have hc' : (tl x)[i]? = some c := by rw [← hc]; exact Array.getElem?_toList
      have sT : Same H (upd H1 T (.tup [.int (i : Nat), .str ⟨#[c]⟩])) := sm.trans (same_new nT)
      refine ⟨T, _, rfl, .inl (.inl upd_same), rfl, _, _, rfl, _, _, rfl, rfl, ?_⟩
      refine ⟨_, rfl, rfl, _, rfl, ?_⟩
      by_cases h0 : c = 48
      · rw [decide_eq_true ((one_sign c).1.mpr h0)]
        refine iteF (iteF ⟨⟨_, _, rfl⟩, pure_more hc' hp (by simp [bad, h0]), sT⟩)
      · rw [decide_eq_false (fun z => h0 ((one_sign c).1.mp z))]
        refine iteT ⟨_, rfl, rfl, _, rfl, ?_⟩
        by_cases h1 : c = 49
        · rw [decide_eq_true ((one_sign c).2.mpr h1)]
          exact iteF ⟨⟨_, _, rfl⟩, pure_more hc' hp (by simp [bad, h1]), sT⟩
        · rw [decide_eq_false (fun z => h1 ((one_sign c).2.mp z))]
          refine iteT ⟨_, rfl, ?_⟩
          have e := strange_take hc' hp (by simp [bad, h0, h1])
          have := q _ sT
          rw [e] at this
          exact this
    · rintro σ H1 ⟨⟨y1, y2, rfl⟩, hp, sm⟩
      have hl : (tl x).take x.cps.size = tl x := List.take_of_length_le (by simp)
      rw [hl] at hp
      have := q H1 sm
      rw [strange_none hp] at this
      exact this
end
end K28

set_option Elab.async false
set_option linter.all false
set_option maxRecDepth 100000
set_option maxHeartbeats 4000000
namespace K28
open PySem PySem.Spec PyProof.Rows L2 Pw TL
section
variable {P : Program} {w : World} {K : PySem.W.Frag} {mg : Str → Option Value} {base : Heap}
/-- a module's number -/
def Num (mg : Str → Option Value) (x : Str) (n : Int) : Prop := ∃ u, mg x = some u ∧ RelV (.int n) u
theorem same_put {H H1 : Hp} {p : Addr} {o : HO} (s : Same H H1) (n : H p = none) : Same H (upd H1 p o) := fun b x e => by
  rw [upd_ne (ne_of_none e n)]
  exact s b x e
/-! is_word -/
abbrev sIW : Stmt := topS 47
theorem scIW : FnScope ["text"] ["text"] (defScope sIW) := ⟨rfl, rfl, rfl, by decide +kernel, rfl, by decide +kernel, by decide +kernel⟩
def wordB (x : Str) : Bool := decide (1 ≤ (tl x).length ∧ (tl x).length ≤ 5) && (strange (tl x)).isNone
def spIW : Sp := fun vs H Q _ => ∃ x : Str, vs = [.str x] ∧ (tl x).length ≤ 1000 ∧ ∀ H', Same H H' → Q (.bl (wordB x)) H'
theorem vOpt_non (o : Option Nat) : decide (vOpt o = .non) = o.isNone := by
  cases o with
  | none => rfl
  | some i => rfl
theorem ok_iw {f fFS : Addr} {fd fdFS : FuncData} (F : Fun K "is_word" "is_word" sIW f fd) (G : FnOk P w K mg base CX0 1 fFS fdFS ["text"] spFS) (gm : mg "first_stranger" = some (.ref fFS)) (gk : PySem.W.keepIn K (.ref fFS) = true) (gb : Binds K fdFS ["text"] [])
    (ml : mg "len" = none) (N5 : Num mg "LONGEST_WORD" 5) : FnOk P w K mg base CX0 2 f fd ["text"] spIW := by
  obtain ⟨u5, m5, r5⟩ := N5
  refine F.ok scIW (fun vs H Q E h => ?_) (fun cdv A outer s H vs Q E hr h => ?_)
  · obtain ⟨x, rfl, _⟩ := h
    rfl
  · obtain ⟨x, rfl, hl, q⟩ := h
    have hz : x.length ≤ sizeLine := by
      rw [len_tl]
      exact Nat.le_of_lt (small1000 hl)
    refine ⟨_, pss_one (ps_ret (pe_and (pe_chain op_le op_le pe_int (pe_callB call_len_str (by rfl) ml PySem.boot_len (pa_cons (pv 0) pa_nil)) (pe_glob rfl m5 r5))
      (pe_one (pe_cmpR op_isN (pe_call G hr rfl gm gk gb .nil pass0 (pa_cons (pv 0) pa_nil)) pe_non (nomark _))))), ?_⟩
    refine ⟨_, rfl, x, rfl, hz, _, _, rfl, rfl, _, rfl, ?_⟩
    by_cases h1 : (1 : Int) ≤ (x.length : Nat)
    · rw [decide_eq_true h1]
      refine iteT ⟨_, _, rfl, rfl, _, rfl, ?_⟩
      by_cases h5 : ((x.length : Nat) : Int) ≤ 5
      · rw [decide_eq_true h5]
        refine iteT ⟨_, rfl, x, rfl, fun H1 s1 => ⟨rfl, ?_⟩⟩
        have := q H1 s1
        have e : wordB x = (strange (tl x)).isNone := by
          unfold wordB
          rw [decide_eq_true (show 1 ≤ (tl x).length ∧ (tl x).length ≤ 5 by rw [← len_tl]; omega), Bool.true_and]
        rw [e] at this
        rw [vOpt_non]
        exact this
      · rw [decide_eq_false h5]
        refine iteF ?_
        have := q H (Same.refl H)
        have e : wordB x = false := by
          unfold wordB
          rw [decide_eq_false (show ¬ (1 ≤ (tl x).length ∧ (tl x).length ≤ 5) by rw [← len_tl]; omega), Bool.false_and]
        rw [e] at this
        exact this
    · rw [decide_eq_false h1]
      refine iteF ⟨_, rfl, iteF ?_⟩
      have := q H (Same.refl H)
      have e : wordB x = false := by
        unfold wordB
        rw [decide_eq_false (show ¬ (1 ≤ (tl x).length ∧ (tl x).length ≤ 5) by rw [← len_tl]; omega), Bool.false_and]
      rw [e] at this
      exact this
/-! are_words -/
abbrev sAW : Stmt := topS 48
theorem scAW : FnScope ["texts", "text"] ["texts"] (defScope sAW) := ⟨rfl, rfl, rfl, by decide +kernel, rfl, by decide +kernel, by decide +kernel⟩
def wordsB (xs : List Str) : Bool := decide (xs.length ≤ 6) && decide (cntD xs = xs.length) && xs.all wordB
def spAW : Sp := fun vs H Q _ => ∃ (l : Addr) (xs : List Str), vs = [.ref l] ∧ H l = some (.lst (xs.map V.str)) ∧ xs.length ≤ 60 ∧ (∀ x ∈ xs, (tl x).length ≤ 1000) ∧ ∀ H', Same H H' → Q (.bl (wordsB xs)) H'
theorem ok_aw {f fIW : Addr} {fd fdIW : FuncData} (F : Fun K "are_words" "are_words" sAW f fd) (G : FnOk P w K mg base CX0 2 fIW fdIW ["text"] spIW) (gm : mg "is_word" = some (.ref fIW)) (gk : PySem.W.keepIn K (.ref fIW) = true) (gb : Binds K fdIW ["text"] [])
    (ml : mg "len" = none) (ms : mg "set" = none) (ma : mg "all" = none) (N6 : Num mg "MOST_WORDS" 6) : FnOk P w K mg base CX0 3 f fd ["texts"] spAW := by
  obtain ⟨u6, m6, r6⟩ := N6
  refine F.ok scAW (fun vs H Q E h => ?_) (fun cdv A outer s H vs Q E hr h => ?_)
  · obtain ⟨l, xs, rfl, _⟩ := h
    rfl
  · obtain ⟨l, xs, rfl, hl, h60, hx, q⟩ := h
    refine ⟨_, pss_cons (ps_if (PW.pt (pw_or (pt_cmpR op_gt (pe_callB call_len_seq (by rfl) ml PySem.boot_len (pa_cons (pv 0) pa_nil)) (pe_glob rfl m6 r6) (nomark _)) (pw_or1 (pt_cmpR op_lt (pe_lenD rfl (by rfl) ml (by rfl) ms (pv 0)) (pe_callB call_len_seq (by rfl) ml PySem.boot_len (pa_cons (pv 0) pa_nil)) (nomark _))))) (pss_one (ps_ret pe_bl)) pss_nil)
      (pss_one (ps_ret (pe_callB (cr_all rfl) (by rfl) ma (by decide +kernel) (pa_cons (pe_lc (own := [("text", 1)]) (g := gName 1) (tt := tYes) rfl scAW.nd (pi_list (pv 0))
        (blkOk_by (N := ["texts", "text"]) (sc := defScope sAW) (by decide +kernel)) (fun _ _ _ _ _ => pg_name (i := 1) scAW.nd rfl (Or.inl rfl)) (fun _ _ _ _ _ => pts_nil)
        (fun _ _ _ _ _ => pe_call G hr rfl gm gk gb .nil pass0 (pa_cons (pv 1) pa_nil))) pa_nil)))), ?_⟩
    have sq : SqL K H l (xs.map V.str) := SqL.of hl
    have hlen : (xs.map V.str).length = xs.length := List.length_map ..
    have hcl := cntD_le xs
    refine ⟨_, rfl, l, _, rfl, .inl sq, _, _, rfl, rfl, _, rfl, ?_⟩
    rw [hlen]
    by_cases h6 : (6 : Int) < (xs.length : Nat)
    · rw [decide_eq_true h6]
      refine iteT (iteT ?_)
      have := q H (Same.refl H)
      have e : wordsB xs = false := by
        unfold wordsB
        rw [decide_eq_false (by omega), Bool.false_and, Bool.false_and]
      rw [e] at this
      exact this
    · rw [decide_eq_false h6]
      refine iteF ⟨_, rfl, l, xs, rfl, .inl sq, h60, _, rfl, l, _, rfl, .inl sq, _, _, rfl, rfl, _, rfl, ?_⟩
      rw [hlen]
      by_cases hd : ((cntD xs : Nat) : Int) < (xs.length : Nat)
      · rw [decide_eq_true hd]
        refine iteT ?_
        have := q H (Same.refl H)
        have e : wordsB xs = false := by
          unfold wordsB
          rw [decide_eq_false (p := cntD xs = xs.length) (by omega), Bool.and_false, Bool.false_and]
        rw [e] at this
        exact this
      · rw [decide_eq_false hd]
        refine iteF ?_
        have e : wordsB xs = xs.all wordB := by
          unfold wordsB
          rw [decide_eq_true (p := xs.length ≤ 6) (by omega), decide_eq_true (p := cntD xs = xs.length) (by omega), Bool.true_and, Bool.true_and]
        refine ⟨_, rfl, l, rfl, ⟨_, sq⟩, fun D nD => ?_⟩
        have eD : l ≠ D := ne_of_none hl nD
        refine lc_list (K := K) (a := l) (xs := xs.map V.str) (fun i H2 => Same H H2 ∧ H2 D = some (.lst (((xs.map wordB).take i).map V.bl)))
          ⟨same_new nD, upd_same⟩ (fun i H2 _ h => SqL.of (h.1 _ _ hl)) (fun i v H2 hv h => ?_) (fun H2 h => ?_)
        · obtain ⟨s2, h3⟩ := h
          rw [List.getElem?_map] at hv
          cases hz : xs[i]? with
          | none =>
            rw [hz] at hv
            cases hv
          | some z =>
            rw [hz] at hv
            obtain rfl : V.str z = v := Option.some.inj hv
            have hg : (xs.map wordB)[i]? = some (wordB z) := by
              rw [List.getElem?_map, hz]
              rfl
            refine ⟨rfl, _, rfl, z, rfl, hx z (List.mem_of_getElem? hz), fun H3 s3 => ⟨_, s3 _ _ h3, ?_, ?_, ?_⟩⟩
            · rw [List.length_map, List.length_take, List.length_map]
              exact Nat.lt_of_le_of_lt (Nat.min_le_right _ _) (small1000 (by omega))
            · exact same_put (s2.trans s3) nD
            · rw [upd_same, List.take_add_one, hg, List.map_append]
              rfl
        · obtain ⟨s2, h3⟩ := h
          rw [hlen, ← List.length_map (f := wordB), List.take_length] at h3
          refine ⟨D, xs.map wordB, rfl, SqL.of h3, ?_⟩
          have := q H2 s2
          rw [e] at this
          rw [List.all_map]
          exact this
end
section
variable {P : Program} {w : World} {K : PySem.W.Frag} {mg : Str → Option Value} {base : Heap}
/-! check_parts -/
abbrev sCP : Stmt := topS 49
theorem scCP : FnScope ["words", "low", "high", "span"] ["words", "low", "high", "span"] (defScope sCP) := ⟨rfl, rfl, rfl, by decide +kernel, rfl, by decide +kernel, by decide +kernel⟩
def vI : Option Int → V
  | none => .non
  | some i => .int i
def okStr : V → Prop := fun v => ∃ s : Str, v = .str s ∧ (tl s).length ≤ 10
def lowB (lo : Int) : Bool := decide (0 ≤ lo ∧ lo ≤ 3)
def highB (lo : Int) : Option Int → Bool
  | none => true
  | some h => decide (max 1 lo ≤ h ∧ h ≤ 7)
def spanB : Option Int → Bool
  | none => true
  | some h => decide (1 ≤ h ∧ h ≤ 4)
/-- the first part that no rule has -/
def partBad (xs : List Str) (lo : Int) (hi sp : Option Int) : Option Str :=
  if wordsB xs = true then (if lowB lo = true then (if highB lo hi = true then (if spanB sp = true then none else some (Str.ofString "span")) else some (Str.ofString "high")) else some (Str.ofString "low")) else some (Str.ofString "words")
/-- BadRule with its part -/
def partOut (C : Addr) (p : Option Str) (H : Hp) (E : XK) : Prop := ∀ s : Str, p = some s → ∀ d H', Same H H' → H d = none → H' d = some (.xd [("part", .str s)]) → E (.ref C) (some d) H'
def spCP (C : Addr) : Sp := fun vs H Q E => ∃ (l : Addr) (xs : List Str) (lo : Int) (hi sp : Option Int), vs = [.ref l, .int lo, vI hi, vI sp] ∧ H l = some (.lst (xs.map V.str)) ∧ xs.length ≤ 60 ∧ (∀ x ∈ xs, (tl x).length ≤ 1000) ∧
  (partBad xs lo hi sp = none → ∀ H', Same H H' → Q .non H') ∧ partOut C (partBad xs lo hi sp) H E
theorem max_if (a b : Int) : (if b > a then b else a) = max a b := by
  by_cases h : b > a
  · rw [if_pos h]
    omega
  · rw [if_neg h]
    omega
theorem ok_cp {f fAW C : Addr} {fd fdAW : FuncData} (F : Fun K "check_parts" "check_parts" sCP f fd) (G : FnOk P w K mg base CX0 3 fAW fdAW ["texts"] spAW) (gm : mg "are_words" = some (.ref fAW)) (gk : PySem.W.keepIn K (.ref fAW) = true) (gb : Binds K fdAW ["texts"] [])
    (mm : mg "max" = none) (NL : Num mg "GREATEST_LOW" 3) (NH : Num mg "GREATEST_HIGH" 7) (NS : Num mg "GREATEST_SPAN" 4) (T : ErrOk P w K mg base "BadRule" "part" C okStr) : FnOk P w K mg base (L2.CX P w) 4 f fd ["words", "low", "high", "span"] (spCP C) := by
  obtain ⟨uL, mL, rL⟩ := NL
  obtain ⟨uH, mH, rH⟩ := NH
  obtain ⟨uS, mS, rS⟩ := NS
  refine F.okX scCP (fun vs H Q E h => ?_) (fun cdv A outer s H vs Q E hr h => ?_)
  · obtain ⟨l, xs, lo, hi, sp, rfl, _⟩ := h
    rfl
  · obtain ⟨l, xs, lo, hi, sp, rfl, hl, h60, hx, q1, q2⟩ := h
    refine ⟨_, pss_cons (ps_if (pt_not (pt_val (pe_call G hr rfl gm gk gb .nil pass0 (pa_cons (pv 0) pa_nil)))) (pss_one (ps_raise rfl (takes_of rfl rfl rfl rfl) (pmk_err T (hr.mono (by decide)) rfl pe_str))) pss_nil)
      (pss_cons (ps_if (pt_not (pt_chain op_le op_le pe_int (pv 1) (pe_glob rfl mL rL))) (pss_one (ps_raise rfl (takes_of rfl rfl rfl rfl) (pmk_err T (hr.mono (by decide)) rfl pe_str))) pss_nil)
      (pss_cons (ps_if (PW.pt (pw_and (pt_cmpR op_notN (pv 2) pe_non (nomark _)) (pw_and1 (pt_not (pt_chain op_le op_le (pe_callB (call_max2 rfl) (by rfl) mm (by decide +kernel) (pa_cons pe_int (pa_cons (pv 1) pa_nil))) (pv 2) (pe_glob rfl mH rH)))))) (pss_one (ps_raise rfl (takes_of rfl rfl rfl rfl) (pmk_err T (hr.mono (by decide)) rfl pe_str))) pss_nil)
      (pss_one (ps_if (PW.pt (pw_and (pt_cmpR op_notN (pv 3) pe_non (nomark _)) (pw_and1 (pt_not (pt_chain op_le op_le pe_int (pv 3) (pe_glob rfl mS rS)))))) (pss_one (ps_raise rfl (takes_of rfl rfl rfl rfl) (pmk_err T (hr.mono (by decide)) rfl pe_str))) pss_nil)))), ?_⟩
    refine ⟨_, rfl, l, xs, rfl, hl, h60, hx, fun H1 s1 => ⟨_, rfl, ?_⟩⟩
    have q1' : partBad xs lo hi sp = none → Q .non H1 := fun e => q1 e H1 s1
    have q2' : ∀ s : Str, partBad xs lo hi sp = some s → ∀ d H', Same H1 H' → H1 d = none → H' d = some (.xd [("part", .str s)]) → E (.ref C) (some d) H' := fun s e d H' s2 n e2 => q2 s e d H' (s1.trans s2) (s1.free n) e2
    clear q1 q2
    unfold partBad at q1' q2'
    cases hw : wordsB xs with
    | false =>
      refine iteT (err_read ⟨_, rfl, by decide⟩ fun d H2 s2 nd e2 => ?_)
      rw [if_neg (by rw [hw]; decide)] at q2'
      exact q2' _ rfl d H2 s2 nd e2
    | true =>
      rw [if_pos hw] at q1' q2'
      refine iteF ⟨_, rfl, _, _, rfl, rfl, _, rfl, ?_⟩
      have bad1 : lowB lo = false → ∀ d H2, Same H1 H2 → H1 d = none → H2 d = some (.xd [("part", .str (Str.ofString "low"))]) → E (.ref C) (some d) H2 := fun e d H2 s2 nd e2 => by
        rw [if_neg (by rw [e]; decide)] at q2'
        exact q2' _ rfl d H2 s2 nd e2
      by_cases h0 : (0 : Int) ≤ lo
      · rw [decide_eq_true h0]
        refine iteT ⟨_, _, rfl, rfl, _, rfl, ?_⟩
        by_cases h3 : lo ≤ 3
        · rw [decide_eq_true h3]
          have hlo : lowB lo = true := decide_eq_true ⟨h0, h3⟩
          rw [if_pos hlo] at q1' q2'
          refine iteF ?_
          clear bad1
          have hS : highB lo hi = true → (spanB sp = true → Q .non H1) ∧ (spanB sp = false → ∀ d H2, Same H1 H2 → H1 d = none → H2 d = some (.xd [("part", .str (Str.ofString "span"))]) → E (.ref C) (some d) H2) := fun c => by
            rw [if_pos c] at q1' q2'
            refine ⟨fun z => q1' (if_pos z), fun z d H2 s2 nd e2 => ?_⟩
            rw [if_neg (by rw [z]; decide)] at q2'
            exact q2' _ rfl d H2 s2 nd e2
          have hB : highB lo hi = false → ∀ d H2, Same H1 H2 → H1 d = none → H2 d = some (.xd [("part", .str (Str.ofString "high"))]) → E (.ref C) (some d) H2 := fun z d H2 s2 nd e2 => by
            rw [if_neg (by rw [z]; decide)] at q2'
            exact q2' _ rfl d H2 s2 nd e2
          clear q1' q2'
          cases hi with
          | none =>
            refine ⟨.non, rfl, rfl, _, rfl, iteF (iteF ?_)⟩
            obtain ⟨s1', s2'⟩ := hS rfl
            cases sp with
            | none =>
              exact ⟨.non, rfl, rfl, _, rfl, iteF (iteF (s1' rfl))⟩
            | some k =>
              refine ⟨.int k, rfl, rfl, _, rfl, iteT ⟨_, rfl, _, _, rfl, rfl, _, rfl, ?_⟩⟩
              by_cases k1 : (1 : Int) ≤ k
              · rw [decide_eq_true k1]
                refine iteT ⟨_, _, rfl, rfl, _, rfl, ?_⟩
                by_cases k4 : k ≤ 4
                · rw [decide_eq_true k4]
                  exact iteF (s1' (decide_eq_true ⟨k1, k4⟩))
                · rw [decide_eq_false k4]
                  exact iteT (err_read ⟨_, rfl, by decide⟩ fun d H2 s2 nd e2 => s2' (decide_eq_false (fun z => k4 z.2)) d H2 s2 nd e2)
              · rw [decide_eq_false k1]
                exact iteF ⟨_, rfl, iteT (err_read ⟨_, rfl, by decide⟩ fun d H2 s2 nd e2 => s2' (decide_eq_false (fun z => k1 z.1)) d H2 s2 nd e2)⟩
          | some g =>
            refine ⟨.int g, rfl, rfl, _, rfl, iteT ⟨_, rfl, _, _, rfl, _, rfl, _, _, rfl, rfl, _, rfl, ?_⟩⟩
            rw [max_if]
            by_cases g1 : max 1 lo ≤ g
            · rw [decide_eq_true g1]
              refine iteT ⟨_, _, rfl, rfl, _, rfl, ?_⟩
              by_cases g7 : g ≤ 7
              · rw [decide_eq_true g7]
                refine iteF ?_
                obtain ⟨s1', s2'⟩ := hS (decide_eq_true ⟨g1, g7⟩)
                cases sp with
                | none =>
                  exact ⟨.non, rfl, rfl, _, rfl, iteF (iteF (s1' rfl))⟩
                | some k =>
                  refine ⟨.int k, rfl, rfl, _, rfl, iteT ⟨_, rfl, _, _, rfl, rfl, _, rfl, ?_⟩⟩
                  by_cases k1 : (1 : Int) ≤ k
                  · rw [decide_eq_true k1]
                    refine iteT ⟨_, _, rfl, rfl, _, rfl, ?_⟩
                    by_cases k4 : k ≤ 4
                    · rw [decide_eq_true k4]
                      exact iteF (s1' (decide_eq_true ⟨k1, k4⟩))
                    · rw [decide_eq_false k4]
                      exact iteT (err_read ⟨_, rfl, by decide⟩ fun d H2 s2 nd e2 => s2' (decide_eq_false (fun z => k4 z.2)) d H2 s2 nd e2)
                  · rw [decide_eq_false k1]
                    exact iteF ⟨_, rfl, iteT (err_read ⟨_, rfl, by decide⟩ fun d H2 s2 nd e2 => s2' (decide_eq_false (fun z => k1 z.1)) d H2 s2 nd e2)⟩
              · rw [decide_eq_false g7]
                exact iteT (err_read ⟨_, rfl, by decide⟩ fun d H2 s2 nd e2 => hB (decide_eq_false (fun z => g7 z.2)) d H2 s2 nd e2)
            · rw [decide_eq_false g1]
              exact iteF ⟨_, rfl, iteT (err_read ⟨_, rfl, by decide⟩ fun d H2 s2 nd e2 => hB (decide_eq_false (fun z => g1 z.1)) d H2 s2 nd e2)⟩
        · rw [decide_eq_false h3]
          refine iteT (err_read ⟨_, rfl, by decide⟩ fun d H2 s2 nd e2 => bad1 (decide_eq_false (fun z => h3 z.2)) d H2 s2 nd e2)
      · rw [decide_eq_false h0]
        refine iteF ⟨_, rfl, iteT (err_read ⟨_, rfl, by decide⟩ fun d H2 s2 nd e2 => bad1 (decide_eq_false (fun z => h0 z.1)) d H2 s2 nd e2)⟩
end
end K28

set_option Elab.async false
set_option linter.all false
set_option maxRecDepth 100000
set_option maxHeartbeats 4000000
namespace K28
open PySem PySem.Spec PyProof.Rows L2 Pw TL
section
variable {P : Program} {w : World} {K : PySem.W.Frag} {mg : Str → Option Value} {base : Heap}
/-! Rule.__init__ -/
abbrev sRI : Stmt := inClass (topS 52) 0
theorem scRI : FnScope ["self", "words", "low", "high", "span", "given"] ["self", "words", "low", "high", "span"] (defScope sRI) := ⟨rfl, rfl, rfl, by decide +kernel, rfl, by decide +kernel, by decide +kernel⟩
/-- what the program says of the class Rule -/
structure RuleC (K : PySem.W.Frag) (R : Addr) : Prop where
  c : Cls K R
  n1 : NoAttr K R "barred"
  n2 : NoAttr K R "least_gap"
  n3 : NoAttr K R "most_idle"
  n4 : NoAttr K R "most_swing"
def fsR (p : Addr) (lo : Int) (hi sp : Option Int) : List (Str × V) := [("barred", .ref p), ("least_gap", .int lo), ("most_idle", vI hi), ("most_swing", vI sp)]
/-- a rule at r, its words' list at p -/
def RuleAt (H : Hp) (R r p : Addr) (ys : List Str) (lo : Int) (hi sp : Option Int) : Prop := ∃ dx, H r = some (.ins R dx (fsR p lo hi sp)) ∧ H p = some (.lst (ys.map V.str))
theorem RuleAt.same {H H1 : Hp} {R r p : Addr} {ys : List Str} {lo : Int} {hi sp : Option Int} (h : RuleAt H R r p ys lo hi sp) (s : Same H H1) : RuleAt H1 R r p ys lo hi sp := by
  obtain ⟨dx, h1, h2⟩ := h
  exact ⟨dx, s _ _ h1, s _ _ h2⟩
/-- what is handed in as words -/
def wordsIn (H : Hp) (v : V) (xs : List Str) : Prop := (v = .non ∧ xs = []) ∨ ∃ l, v = .ref l ∧ H l = some (.lst (xs.map V.str))
def spRI (R C : Addr) : Sp := fun vs H Q E => ∃ (a dx : Addr) (wv : V) (xs : List Str) (lo : Int) (hi sp : Option Int), vs = [.ref a, wv, .int lo, vI hi, vI sp] ∧ H a = some (.ins R dx []) ∧ wordsIn H wv xs ∧ xs.length ≤ 60 ∧ (∀ x ∈ xs, (tl x).length ≤ 1000) ∧
  (partBad xs lo hi sp = none → ∀ ys p H', ys.Perm xs → sortedS ys = true → H p = none → (∀ b o, b ≠ a → H b = some o → H' b = some o) → RuleAt H' R a p ys lo hi sp → Q .non H') ∧ partOut C (partBad xs lo hi sp) H E
theorem ok_ri {f fCP C R : Addr} {fd fdCP : FuncData} {ds : List V} (F : FunD K "__init__" "Rule.__init__" (defArgs sRI) (defBody sRI) (defScope sRI) ds [] f fd) (G : FnOk P w K mg base (L2.CX P w) 4 fCP fdCP ["words", "low", "high", "span"] (spCP C)) (gm : mg "check_parts" = some (.ref fCP)) (gk : PySem.W.keepIn K (.ref fCP) = true) (gb : Binds K fdCP ["words", "low", "high", "span"] [])
    (ms : mg "sorted" = none) (T : RuleC K R) : FnOk P w K mg base (L2.CX P w) 5 f fd ["self", "words", "low", "high", "span"] (spRI R C) := by
  refine F.ok scRI (fun vs H Q E h => ?_) (fun cdv A outer s H vs Q E hr h => ?_)
  · obtain ⟨a, dx, wv, xs, lo, hi, sp, rfl, _⟩ := h
    rfl
  · obtain ⟨a, dx, wv, xs, lo, hi, sp, rfl, ha, hw, h60, hx, q1, q2⟩ := h
    refine ⟨_, pss_cons (ps_set (i := 5) scRI.nd rfl (.inl rfl) (pe_ifExp (pt_cmpR op_isN (pv 1) pe_non (nomark _)) (pe_lst pa_nil) (pv 1)))
      (pss_cons (ps_expr (pe_call (E := E) G hr rfl gm gk gb .nil (passes_call (takes_of rfl rfl rfl rfl) (fun _ _ _ _ z => z)) (pa_cons (pv 5) (pa_cons (pv 2) (pa_cons (pv 3) (pa_cons (pv 4) pa_nil))))))
      (pss_cons (ps_fld (pv 0) (pe_callB cr_sortedS (by rfl) ms (by decide +kernel) (pa_cons (pv 5) pa_nil)) rfl)
      (pss_cons (ps_fld (pv 0) (pv 2) rfl)
      (pss_cons (ps_fld (pv 0) (pv 3) rfl)
      (pss_one (ps_fld (pv 0) (pv 4) rfl)))))), ?_⟩
    rcases hw with ⟨rfl, rfl⟩ | ⟨l, rfl, hl⟩
    · refine ⟨.non, rfl, rfl, _, rfl, iteT ⟨by show 0 ≤ sizeLine; decide, fun l nl => ?_⟩⟩
      have s0 : Same H (upd H l (.lst [])) := same_new nl
      refine ⟨_, rfl, _, rfl, _, rfl, _, rfl, l, [], lo, hi, sp, rfl, upd_same, h60, hx, fun e H1 s1 => ?_, fun s e d H' s2 n e2 => q2 s e d H' (s0.trans s2) (s0.free n) e2⟩
      have hl1 : H1 l = some (.lst (([] : List Str).map V.str)) := s1 _ _ upd_same
      have ha1 : H1 a = some (.ins R dx []) := (s0.trans s1) _ _ ha
      refine ⟨_, rfl, l, [], rfl, SqL.of hl1, by decide, fun ys p hp hs np => ?_⟩
      have npH : H p = none := (s0.trans s1).free np
      have nea : a ≠ p := ne_of_none ha1 np
      refine ⟨_, rfl, a, R, dx, [], rfl, by rw [upd_ne nea]; exact ha1, T.c, T.n1, by decide, ?_⟩
      refine ⟨_, rfl, _, rfl, a, R, dx, _, rfl, upd_same, T.c, T.n2, by show (1 : Nat) < 1000; decide, ?_⟩
      refine ⟨_, rfl, _, rfl, a, R, dx, _, rfl, upd_same, T.c, T.n3, by show (2 : Nat) < 1000; decide, ?_⟩
      refine ⟨_, rfl, _, rfl, a, R, dx, _, rfl, upd_same, T.c, T.n4, by show (3 : Nat) < 1000; decide, ?_⟩
      refine q1 e ys p _ hp hs npH (fun b o hb hbo => ?_) ⟨dx, upd_same, ?_⟩
      · rw [upd_ne hb, upd_ne hb, upd_ne hb, upd_ne hb, upd_ne (ne_of_none hbo npH)]
        exact (s0.trans s1) _ _ hbo
      · rw [upd_ne nea.symm, upd_ne nea.symm, upd_ne nea.symm, upd_ne nea.symm, upd_same]
    · have nn : decide (V.ref l = V.non) = false := rfl
      refine ⟨.ref l, rfl, rfl, _, rfl, ?_⟩
      rw [nn]
      refine iteF ⟨_, rfl, ?_⟩
      refine ⟨_, rfl, _, rfl, _, rfl, _, rfl, l, xs, lo, hi, sp, rfl, hl, h60, hx, fun e H1 s1 => ?_, q2⟩
      have hl1 : H1 l = some (.lst (xs.map V.str)) := s1 _ _ hl
      have ha1 : H1 a = some (.ins R dx []) := s1 _ _ ha
      refine ⟨_, rfl, l, xs, rfl, SqL.of hl1, by omega, fun ys p hp hs np => ?_⟩
      have npH : H p = none := s1.free np
      have nea : a ≠ p := ne_of_none ha1 np
      refine ⟨_, rfl, a, R, dx, [], rfl, by rw [upd_ne nea]; exact ha1, T.c, T.n1, by decide, ?_⟩
      refine ⟨_, rfl, _, rfl, a, R, dx, _, rfl, upd_same, T.c, T.n2, by show (1 : Nat) < 1000; decide, ?_⟩
      refine ⟨_, rfl, _, rfl, a, R, dx, _, rfl, upd_same, T.c, T.n3, by show (2 : Nat) < 1000; decide, ?_⟩
      refine ⟨_, rfl, _, rfl, a, R, dx, _, rfl, upd_same, T.c, T.n4, by show (3 : Nat) < 1000; decide, ?_⟩
      refine q1 e ys p _ hp hs npH (fun b o hb hbo => ?_) ⟨dx, upd_same, ?_⟩
      · rw [upd_ne hb, upd_ne hb, upd_ne hb, upd_ne hb, upd_ne (ne_of_none hbo npH)]
        exact s1 _ _ hbo
      · rw [upd_ne nea.symm, upd_ne nea.symm, upd_ne nea.symm, upd_ne nea.symm, upd_same]
/-! what a rule tells of itself -/
abbrev sMW : Stmt := inClass (topS 52) 1
abbrev sML : Stmt := inClass (topS 52) 2
abbrev sMH : Stmt := inClass (topS 52) 3
abbrev sMS : Stmt := inClass (topS 52) 4
theorem scMW : FnScope ["self"] ["self"] (defScope sMW) := ⟨rfl, rfl, rfl, by decide +kernel, rfl, by decide +kernel, by decide +kernel⟩
theorem scML : FnScope ["self"] ["self"] (defScope sML) := ⟨rfl, rfl, rfl, by decide +kernel, rfl, by decide +kernel, by decide +kernel⟩
theorem scMH : FnScope ["self"] ["self"] (defScope sMH) := ⟨rfl, rfl, rfl, by decide +kernel, rfl, by decide +kernel, by decide +kernel⟩
theorem scMS : FnScope ["self"] ["self"] (defScope sMS) := ⟨rfl, rfl, rfl, by decide +kernel, rfl, by decide +kernel, by decide +kernel⟩
def spMW (R : Addr) : Sp := fun vs H Q _ => ∃ (r p : Addr) (ys : List Str) (lo : Int) (hi sp : Option Int), vs = [.ref r] ∧ RuleAt H R r p ys lo hi sp ∧ ∀ l, H l = none → Q (.ref l) (upd H l (.lst (ys.map V.str)))
def spMO (R : Addr) (g : Int → Option Int → Option Int → V) : Sp := fun vs H Q _ => ∃ (r p : Addr) (ys : List Str) (lo : Int) (hi sp : Option Int), vs = [.ref r] ∧ RuleAt H R r p ys lo hi sp ∧ Q (g lo hi sp) H
theorem ok_mw {f R : Addr} {fd : FuncData} {k : Nat} (F : Fun K "words" "Rule.words" sMW f fd) (T : RuleC K R) (ml : mg "list" = none) : FnOk P w K mg base CX0 (k + 1) f fd ["self"] (spMW R) := by
  refine F.ok scMW (fun vs H Q E h => ?_) (fun cdv A outer s H vs Q E hr h => ?_)
  · obtain ⟨r, p, ys, lo, hi, sp, rfl, _⟩ := h
    rfl
  · obtain ⟨r, p, ys, lo, hi, sp, rfl, ⟨dx, h1, h2⟩, q⟩ := h
    refine ⟨_, pss_one (ps_ret (pe_callTy call_list_of (by rfl) ml (by decide +kernel) (pa_cons (pe_fld (pv 0) rfl) pa_nil))), ?_⟩
    exact ⟨_, rfl, r, R, dx, _, .ref p, rfl, h1, T.c, T.n1, rfl, p, _, rfl, .inl (SqL.of h2), q⟩
theorem ok_ml {f R : Addr} {fd : FuncData} {k : Nat} (F : Fun K "low" "Rule.low" sML f fd) (T : RuleC K R) : FnOk P w K mg base CX0 (k + 1) f fd ["self"] (spMO R fun lo _ _ => .int lo) := by
  refine F.ok scML (fun vs H Q E h => ?_) (fun cdv A outer s H vs Q E hr h => ?_)
  · obtain ⟨r, p, ys, lo, hi, sp, rfl, _⟩ := h
    rfl
  · obtain ⟨r, p, ys, lo, hi, sp, rfl, ⟨dx, h1, h2⟩, q⟩ := h
    exact ⟨_, pss_one (ps_ret (pe_fld (pv 0) rfl)), _, rfl, r, R, dx, _, _, rfl, h1, T.c, T.n2, rfl, q⟩
theorem ok_mh {f R : Addr} {fd : FuncData} {k : Nat} (F : Fun K "high" "Rule.high" sMH f fd) (T : RuleC K R) : FnOk P w K mg base CX0 (k + 1) f fd ["self"] (spMO R fun _ hi _ => vI hi) := by
  refine F.ok scMH (fun vs H Q E h => ?_) (fun cdv A outer s H vs Q E hr h => ?_)
  · obtain ⟨r, p, ys, lo, hi, sp, rfl, _⟩ := h
    rfl
  · obtain ⟨r, p, ys, lo, hi, sp, rfl, ⟨dx, h1, h2⟩, q⟩ := h
    exact ⟨_, pss_one (ps_ret (pe_fld (pv 0) rfl)), _, rfl, r, R, dx, _, _, rfl, h1, T.c, T.n3, rfl, q⟩
theorem ok_ms {f R : Addr} {fd : FuncData} {k : Nat} (F : Fun K "span" "Rule.span" sMS f fd) (T : RuleC K R) : FnOk P w K mg base CX0 (k + 1) f fd ["self"] (spMO R fun _ _ sp => vI sp) := by
  refine F.ok scMS (fun vs H Q E h => ?_) (fun cdv A outer s H vs Q E hr h => ?_)
  · obtain ⟨r, p, ys, lo, hi, sp, rfl, _⟩ := h
    rfl
  · obtain ⟨r, p, ys, lo, hi, sp, rfl, ⟨dx, h1, h2⟩, q⟩ := h
    exact ⟨_, pss_one (ps_ret (pe_fld (pv 0) rfl)), _, rfl, r, R, dx, _, _, rfl, h1, T.c, T.n4, rfl, q⟩
end
end K28

set_option Elab.async false
set_option linter.all false
set_option maxRecDepth 100000
set_option maxHeartbeats 4000000
namespace K28
open PySem PySem.Spec PyProof.Rows L2 Pw TL
section
variable {P : Program} {w : World} {K : PySem.W.Frag} {mg : Str → Option Value} {base : Heap}
/-- the draw's list at p, its script at q -/
def Dr (p q : Addr) (ns : List Int) (H : Hp) : Prop := H q = some (.lst (ns.map V.int)) ∧ ∃ a b c : Int, H p = some (.lst [.ref q, .int a, .int b, .int c]) ∧ 0 ≤ a ∧ 0 ≤ b ∧ 0 ≤ c ∧ c < 2147483647
/-- all but what stands at p is kept -/
def SameX (p : Addr) (H H' : Hp) : Prop := ∀ b o, H b = some o → b ≠ p → H' b = some o
theorem SameX.refl (p : Addr) (H : Hp) : SameX p H H := fun _ _ e _ => e
theorem SameX.trans {p : Addr} {H H1 H2 : Hp} (a : SameX p H H1) (b : SameX p H1 H2) : SameX p H H2 := fun c o e n => b c o (a c o e n) n
theorem SameX.of {p : Addr} {H H1 : Hp} (s : Same H H1) : SameX p H H1 := fun b o e _ => s b o e
theorem SameX.put {p : Addr} {H H1 : Hp} {o : HO} (s : SameX p H H1) : SameX p H (upd H1 p o) := fun b x e n => by
  rw [upd_ne n]
  exact s b x e n
theorem SameX.new {p d : Addr} {H H1 : Hp} {o : HO} (s : SameX p H H1) (n : H1 d = none) : SameX p H (upd H1 d o) := fun b x e ne => by
  have h1 := s b x e ne
  rw [upd_ne (ne_of_none h1 n)]
  exact h1
theorem Dr.ne {p q : Addr} {ns : List Int} {H : Hp} (h : Dr p q ns H) : q ≠ p := by
  obtain ⟨h1, a, b, c, h2, _⟩ := h
  intro e
  rw [e, h2] at h1
  have e2 : [V.ref q, .int a, .int b, .int c] = ns.map V.int := HO.lst.inj (Option.some.inj h1)
  cases ns with
  | nil => simp at e2
  | cons n r => simp at e2
theorem Dr.same {p q : Addr} {ns : List Int} {H H' : Hp} (h : Dr p q ns H) (s : Same H H') : Dr p q ns H' := ⟨s _ _ h.1, let ⟨a, b, c, e, r⟩ := h.2; ⟨a, b, c, s _ _ e, r⟩⟩
theorem Dr.put {p q : Addr} {ns : List Int} {H : Hp} {a b c : Int} (h : H q = some (.lst (ns.map V.int))) (n : q ≠ p) (ha : 0 ≤ a) (hb : 0 ≤ b) (hc : 0 ≤ c) (hc2 : c < 2147483647) : Dr p q ns (upd H p (.lst [.ref q, .int a, .int b, .int c])) :=
  ⟨by rw [upd_ne n]; exact h, a, b, c, upd_same, ha, hb, hc, hc2⟩
/-! _law_open -/
abbrev sOP : Stmt := topS 54
theorem scOP : FnScope ["_law_script"] ["_law_script"] (defScope sOP) := ⟨rfl, rfl, rfl, by decide +kernel, rfl, by decide +kernel, by decide +kernel⟩
def spOP (K : PySem.W.Frag) : Sp := fun vs H Q _ => ∃ (a : Addr) (ns : List Int), vs = [.ref a] ∧ SqL K H a (ns.map V.int) ∧ ∀ H' p q ms, Same H H' → H p = none → Dr p q ms H' → Q (.ref p) H'
theorem ok_op {f : Addr} {fd : FuncData} {k : Nat} (F : Fun K "_law_open" "_law_open" sOP f fd) (ml : mg "list" = none) : FnOk P w K mg base CX0 (k + 1) f fd ["_law_script"] (spOP K) := by
  refine F.ok scOP (fun vs H Q E h => ?_) (fun cdv A outer s H vs Q E hr h => ?_)
  · obtain ⟨a, ns, rfl, _⟩ := h
    rfl
  · obtain ⟨a, ns, rfl, hS, q⟩ := h
    refine ⟨_, pss_one (ps_ret (pe_lst (pa_cons (pe_callTy call_list_of (by rfl) ml (by decide +kernel) (pa_cons (pe_slice sl_list (pv 0) po_none (po_some pe_int)) pa_nil)) (pa_cons pe_int (pa_cons pe_int (pa_cons pe_int pa_nil)))))), ?_⟩
    refine ⟨.ref a, rfl, 63, rfl, a, _, rfl, hS, fun p1 n1 => ?_⟩
    refine ⟨p1, _, rfl, .inl (SqL.of upd_same), fun q1 n2 => ⟨by show 4 ≤ sizeLine; decide, fun p n3 => ?_⟩⟩
    have e2 : q1 ≠ p := ne_of_none upd_same n3
    have ec : cutV (ns.map V.int) none (some 63) = (ns.take 63).map V.int := by
      unfold cutV
      rw [show HT.sIx (ns.map V.int).length (ns.map V.int).length (some 63) = min 63 (ns.map V.int).length from HT.sIx_nat _ _ 63]
      show List.take (min 63 (ns.map V.int).length - 0) (ns.map V.int) = _
      rw [Nat.sub_zero, List.map_take]
      exact (List.take_eq_take_min).symm
    have s2 : Same H (upd (upd H p1 (.lst (cutV (ns.map V.int) none (some 63)))) q1 (.lst (cutV (ns.map V.int) none (some 63)))) := (same_new n1).trans (same_new n2)
    refine q _ p q1 (ns.take 63) (s2.trans (same_new n3)) (s2.free n3) ⟨?_, 0, 0, 37, upd_same, by decide, by decide, by decide, by decide⟩
    rw [upd_ne e2, upd_same, ec]
/-! _law_pull -/
abbrev sPU : Stmt := topS 55
theorem scPU : FnScope ["_law_draw", "_law_total_of", "_law_cell", "_law_got", "_law_seed"] ["_law_draw", "_law_total_of"] (defScope sPU) := ⟨rfl, rfl, rfl, by decide +kernel, rfl, by decide +kernel, by decide +kernel⟩
def spPU : Sp := fun vs H Q _ => ∃ (p q : Addr) (ns : List Int) (n : Int), vs = [.ref p, .int n] ∧ 0 < n ∧ n < 1073741824 ∧ Dr p q ns H ∧ ∀ v H', 0 ≤ v → v < n → SameX p H H' → Dr p q ns H' → Q (.int v) H'
/-- behind the drawing of a cell: the last two ways -/
theorem ok_pu {f : Addr} {fd : FuncData} {k : Nat} (F : Fun K "_law_pull" "_law_pull" sPU f fd) (ml : mg "len" = none) : FnOk P w K mg base CX0 (k + 1) f fd ["_law_draw", "_law_total_of"] spPU := by
  refine F.ok scPU (fun vs H Q E h => ?_) (fun cdv A outer s H vs Q E hr h => ?_)
  · obtain ⟨p, q, ns, n, rfl, _⟩ := h
    rfl
  · obtain ⟨p, q, ns, n, rfl, n0, n1, hD, k⟩ := h
    refine ⟨_, C8.pss_cut (ps_if (PW.pt (pw_and (pt_cmpR op_lt (pe_ix ix_list (pv 0) pe_int (fun _ _ => rfl)) (pv 1) (nomark _))
          (pw_and1 (pt_cmpR op_lt (pe_ix ix_list (pv 0) pe_int (fun _ _ => rfl)) (pe_callB call_len_seq (by rfl) ml PySem.boot_len (pa_cons (pe_ix ix_list (pv 0) pe_int (fun _ _ => rfl)) pa_nil)) (nomark _)))))
        (pss_cons (ps_set (i := 2) scPU.nd rfl (.inl rfl) (pe_ix ix_list (pe_ix ix_list (pv 0) pe_int (fun _ _ => rfl)) (pe_ix ix_list (pv 0) pe_int (fun _ _ => rfl)) (fun _ _ => rfl)))
        (pss_cons (ps_asg (pe_op op_add (pe_ix ix_list (pv 0) pe_int (fun _ _ => rfl)) pe_int) (pg_sub (pv 0) pe_int set_list))
        (pss_cons (ps_asg pe_int (pg_sub (pv 0) pe_int set_list))
        (pss_one (ps_if (pt_cmpR op_ge (pv 2) (pe_op op_pow pe_int pe_int) (nomark _)) (pss_one (ps_asg (pv 2) (pg_sub (pv 0) pe_int set_list)))
          (pss_one (ps_asg (pe_op op_modN (pe_op op_add (pe_op op_add (pe_op op_mul (pe_ix ix_list (pv 0) pe_int (fun _ _ => rfl)) pe_int) (pe_op op_mul (pe_op op_modN (pv 2) pe_int) pe_int)) pe_int) pe_int) (pg_sub (pv 0) pe_int set_list)))))))) pss_nil)
      (pss_cons (ps_if (pt_cmpR op_ge (pe_ix ix_list (pv 0) pe_int (fun _ _ => rfl)) (pv 1) (nomark _))
        (pss_cons (ps_set (i := 3) scPU.nd rfl (.inl rfl) (pe_op op_modN (pe_ix ix_list (pv 0) pe_int (fun _ _ => rfl)) (pv 1)))
        (pss_cons (ps_asg (pe_op op_fdivN (pe_ix ix_list (pv 0) pe_int (fun _ _ => rfl)) (pv 1)) (pg_sub (pv 0) pe_int set_list)) (pss_one (ps_ret (pv 3))))) pss_nil)
      (pss_cons (ps_set (i := 4) scPU.nd rfl (.inl rfl) (pe_ix ix_list (pv 0) pe_int (fun _ _ => rfl)))
      (pss_cons (ps_asg (pe_op op_modN (pe_op op_add (pe_op op_add (pe_op op_mul (pe_op op_modN (pe_op op_mul (pv 4) (pv 4)) pe_int) pe_int) (pe_op op_mul (pv 4) pe_int)) pe_int) pe_int) (pg_sub (pv 0) pe_int set_list))
      (pss_one (ps_ret (pe_op op_modN (pe_op op_add (pe_op op_fdivN (pe_ix ix_list (pv 0) pe_int (fun _ _ => rfl)) pe_int) (pe_op op_mul (pe_op op_modN (pe_ix ix_list (pv 0) pe_int (fun _ _ => rfl)) pe_int) pe_int)) (pv 1))))))), ?_⟩
    have nq := hD.ne
    refine ⟨fun σ H1 => (∃ y, σ = [some (.ref p), some (.int n), y, none, none]) ∧ SameX p H H1 ∧ Dr p q ns H1, ?_, ?_⟩
    · obtain ⟨hq, a, b, c, hp, ha, hb, hc, hc2⟩ := id hD
      refine ⟨.ref p, rfl, p, _, 2, .int b, rfl, rfl, SqL.of hp, rfl, _, rfl, b, n, rfl, rfl, _, rfl, ?_⟩
      by_cases hbn : b < n
      · rw [decide_eq_true hbn]
        refine iteT ⟨.ref p, rfl, p, _, 1, .int a, rfl, rfl, SqL.of hp, rfl, .ref p, rfl, p, _, 0, .ref q, rfl, rfl, SqL.of hp, rfl, q, _, rfl, .inl (SqL.of hq), a, _, rfl, rfl, _, rfl, ?_⟩
        by_cases hal : a < ((ns.map V.int).length : Int)
        · rw [decide_eq_true hal]
          have hi : a.toNat < ns.length := by
            rw [List.length_map] at hal
            omega
          have ea : a = ((a.toNat : Nat) : Int) := by omega
          have hz : atI (ns.map V.int) a = some (.int ns[a.toNat]) := by
            refine at_of ea ?_
            rw [List.getElem?_map, List.getElem?_eq_getElem hi]
            rfl
          refine iteT ⟨.ref p, rfl, p, _, 0, .ref q, rfl, rfl, SqL.of hp, rfl, .ref p, rfl, p, _, 1, .int a, rfl, rfl, SqL.of hp, rfl, q, _, a, .int ns[a.toNat], rfl, rfl, SqL.of hq, hz, ?_⟩
          refine ⟨.ref p, rfl, p, _, 1, .int a, rfl, rfl, SqL.of hp, rfl, a, 1, rfl, rfl, .ref p, rfl, p, _, 1, 1, rfl, rfl, hp, rfl, ?_⟩
          have hp1 : upd H p (.lst [.ref q, .int (a + 1), .int b, .int c]) p = some (.lst [.ref q, .int (a + 1), .int b, .int c]) := upd_same
          refine ⟨.ref p, rfl, p, _, 2, 2, rfl, rfl, hp1, rfl, ?_⟩
          have hp2 : upd (upd H p (.lst [.ref q, .int (a + 1), .int b, .int c])) p (.lst [.ref q, .int (a + 1), .int 0, .int c]) p = some (.lst [.ref q, .int (a + 1), .int 0, .int c]) := upd_same
          have hq2 : upd (upd H p (.lst [.ref q, .int (a + 1), .int b, .int c])) p (.lst [.ref q, .int (a + 1), .int 0, .int c]) q = some (.lst (ns.map V.int)) := by rw [upd_ne nq, upd_ne nq]; exact hq
          refine ⟨_, rfl, 10, 18, rfl, rfl, ⟨by decide, by decide, by decide⟩, ns[a.toNat], 10 ^ 18, rfl, rfl, _, rfl, ?_⟩
          refine ite2 (fun hge => ?_) (fun hge => ?_)
          · have hge : (10 : Int) ^ 18 ≤ ns[a.toNat] := of_decide_eq_true hge
            refine ⟨_, rfl, .ref p, rfl, p, _, 2, 2, rfl, rfl, hp2, rfl, ⟨some (.int ns[a.toNat]), rfl⟩, ?_, ?_⟩
            · exact ((SameX.refl p H).put.put).put
            · exact Dr.put hq2 nq (by omega) (by omega) hc hc2
          · refine ⟨.ref p, rfl, p, _, 3, .int c, rfl, rfl, SqL.of hp2, rfl, c, 40692, rfl, rfl, .inr ⟨by decide, by decide⟩, _, rfl, _, 2147483629, rfl, rfl, (show (2147483629 : Int) ≠ 0 by decide), _, 69069, rfl, rfl, .inr ⟨by decide, by decide⟩, _, _, rfl, rfl, _, 7919, rfl, rfl, _, 2147483647, rfl, rfl, (show (2147483647 : Int) ≠ 0 by decide), .ref p, rfl, p, _, 3, 3, rfl, rfl, hp2, rfl, ⟨some (.int ns[a.toNat]), rfl⟩, ?_, ?_⟩
            · exact ((SameX.refl p H).put.put).put
            · refine Dr.put hq2 nq (by omega) (by omega) ?_ ?_
              · exact Int.fmod_nonneg_of_pos _ (by decide)
              · exact Int.fmod_lt_of_pos _ (by decide)
        · rw [decide_eq_false hal]
          exact iteF ⟨⟨none, rfl⟩, SameX.refl p H, hD⟩
      · rw [decide_eq_false hbn]
        exact iteF (iteF ⟨⟨none, rfl⟩, SameX.refl p H, hD⟩)
    · rintro σ H1 ⟨⟨y, rfl⟩, sx, hD1⟩
      obtain ⟨hq, a, b, c, hp, ha, hb, hc, hc2⟩ := id hD1
      refine ⟨.ref p, rfl, p, _, 2, .int b, rfl, rfl, SqL.of hp, rfl, _, rfl, b, n, rfl, rfl, _, rfl, ?_⟩
      refine ite2 (fun hge => ?_) (fun hge => ?_)
      · refine ⟨.ref p, rfl, p, _, 2, .int b, rfl, rfl, SqL.of hp, rfl, _, rfl, b, n, rfl, rfl, by omega, ?_⟩
        refine ⟨.ref p, rfl, p, _, 2, .int b, rfl, rfl, SqL.of hp, rfl, _, rfl, b, n, rfl, rfl, ⟨by omega, by omega⟩, .ref p, rfl, p, _, 2, 2, rfl, rfl, hp, rfl, _, rfl, ?_⟩
        refine k _ _ (Int.fmod_nonneg_of_pos _ n0) (Int.fmod_lt_of_pos _ n0) sx.put (Dr.put hq nq ha ?_ hc hc2)
        rw [Int.fdiv_eq_ediv_of_nonneg _ (by omega)]
        exact Int.ediv_nonneg hb (by omega)
      · refine ⟨.ref p, rfl, p, _, 3, .int c, rfl, rfl, SqL.of hp, rfl, ?_⟩
        refine ⟨_, rfl, _, rfl, c, c, rfl, rfl, .inl ⟨by omega, by omega⟩, _, 2147483587, rfl, rfl, (show (2147483587 : Int) ≠ 0 by decide), _, 3, rfl, rfl, .inr ⟨by decide, by decide⟩, _, rfl, c, 48271, rfl, rfl, .inr ⟨by decide, by decide⟩, _, _, rfl, rfl, _, 1013904223, rfl, rfl, _, 2147483647, rfl, rfl, (show (2147483647 : Int) ≠ 0 by decide), .ref p, rfl, p, _, 3, 3, rfl, rfl, hp, rfl, ?_⟩
        refine ⟨.ref p, rfl, p, _, 3, _, rfl, rfl, SqL.of upd_same, rfl, _, 61, rfl, rfl, ⟨by decide, by decide⟩, .ref p, rfl, p, _, 3, _, rfl, rfl, SqL.of upd_same, rfl, _, 8209, rfl, rfl, (show (8209 : Int) ≠ 0 by decide), _, 29, rfl, rfl, .inr ⟨by decide, by decide⟩, _, _, rfl, rfl, _, rfl, _, n, rfl, rfl, by omega, ?_⟩
        exact k _ _ (Int.fmod_nonneg_of_pos _ n0) (Int.fmod_lt_of_pos _ n0) sx.put (Dr.put hq nq ha hb (Int.fmod_nonneg_of_pos _ (by decide)) (Int.fmod_lt_of_pos _ (by decide)))
end
section
variable {P : Program} {w : World} {K : PySem.W.Frag} {mg : Str → Option Value} {base : Heap}
/-- pull as its callers have it -/
structure PUOk (P : Program) (w : World) (K : PySem.W.Frag) (mg : Str → Option Value) (base : Heap) : Prop where
  ex : ∃ (f : Addr) (fd : FuncData), FnOk P w K mg base CX0 1 f fd ["_law_draw", "_law_total_of"] spPU ∧ mg "_law_pull" = some (.ref f) ∧ PySem.W.keepIn K (.ref f) = true ∧ Binds K fd ["_law_draw", "_law_total_of"] []
/-! _law_row -/
abbrev sRO : Stmt := topS 58
theorem scRO : FnScope ["_law_draw", "_law_many", "_law_k"] ["_law_draw", "_law_many"] (defScope sRO) := ⟨rfl, rfl, rfl, by decide +kernel, rfl, by decide +kernel, by decide +kernel⟩
def spRO : Sp := fun vs H Q _ => ∃ (p q : Addr) (ns : List Int) (n : Nat), vs = [.ref p, .int (n : Nat)] ∧ n ≤ 1000 ∧ Dr p q ns H ∧ ∀ (x : Str) H', Pure (tl x) → (tl x).length = n → SameX p H H' → Dr p q ns H' → Q (.str x) H'
/-- texts of one sign each, 0 or 1 -/
def Signs (l : List Nat) : List V := l.map fun c => V.str ⟨#[c]⟩
theorem join_signs : ∀ l : List Nat, tl (Txt.join Str.empty (l.map fun c => (⟨#[c]⟩ : Str))) = l := by
  intro l
  rw [join_eq]
  have gen : ∀ l : List Nat, tl (Str.join Str.empty (l.map fun c => (⟨#[c]⟩ : Str))) = l := by
    intro l
    induction l with
    | nil => rfl
    | cons c r ih =>
      cases r with
      | nil => rfl
      | cons d r =>
        have e : Str.join Str.empty ((c :: d :: r).map fun c => (⟨#[c]⟩ : Str)) = (⟨#[c]⟩ : Str) ++ Str.empty ++ Str.join Str.empty ((d :: r).map fun c => (⟨#[c]⟩ : Str)) := by
          first
            | rfl
            | simp [Str.join]
        rw [e, tl_append, tl_append, ih]
        rfl
  exact gen l
theorem ok_ro {f : Addr} {fd : FuncData} (F : Fun K "_law_row" "_law_row" sRO f fd) (R : PUOk P w K mg base) (mr : mg "range" = none) : FnOk P w K mg base CX0 2 f fd ["_law_draw", "_law_many"] spRO := by
  obtain ⟨fR, fdR, G, gm, gk, gb⟩ := R.ex
  refine F.ok scRO (fun vs H Q E h => ?_) (fun cdv A outer s H vs Q E hr h => ?_)
  · obtain ⟨p, q, ns, n, rfl, _⟩ := h
    rfl
  · obtain ⟨p, q, ns, n, rfl, hn, hD, k⟩ := h
    refine ⟨_, pss_one (ps_ret (pe_join pe_str (pe_lc (own := [("_law_k", 2)]) (g := gName 2) (tt := tYes) rfl scRO.nd (pi_range1 rfl mr (pa_cons (pv 1) pa_nil))
        (blkOk_by (N := ["_law_draw", "_law_many", "_law_k"]) (sc := defScope sRO) (by decide +kernel)) (fun _ _ _ _ _ => pg_name (i := 2) scRO.nd rfl (Or.inl rfl)) (fun _ _ _ _ _ => pts_nil)
        (fun _ _ _ _ _ => pe_ix ix_str pe_str (pe_call G hr rfl gm gk gb .nil pass0 (pa_cons (pv 0) (pa_cons pe_int pa_nil))) (fun _ _ => rfl))))), ?_⟩
    have pD : ∀ {D : Addr}, H D = none → D ≠ p := fun {D} nD e => by
      obtain ⟨_, a, b, c, hp, _⟩ := hD
      rw [e, hp] at nD
      cases nD
    refine ⟨⟨_, rfl⟩, _, rfl, (n : Int), rfl, by omega, by omega, fun D nD => ?_⟩
    refine lc_range (lo := 0) (n := n) (fun i H2 => ∃ l : List Nat, Pw.Pure l ∧ l.length = i ∧ SameX p H H2 ∧ Dr p q ns H2 ∧ H2 D = some (.lst (Signs l)))
      ⟨[], (fun c hc => by cases hc), rfl, (SameX.refl p H).new nD, hD.same (same_new nD), upd_same⟩ (fun i H2 hi h => ?_) (fun H2 h => ?_)
    · obtain ⟨l, hl, hll, sx, hD2, h2⟩ := h
      refine ⟨rfl, .ref p, rfl, p, q, ns, 2, rfl, by decide, by decide, hD2, fun v H3 h0 h1 sx3 hD3 => ?_⟩
      have h3 : H3 D = some (.lst (Signs l)) := sx3 _ _ h2 (pD nD)
      have fin : ∀ c : Nat, (c = 48 ∨ c = 49) → ∃ acc, H3 D = some (.lst acc) ∧ acc.length < sizeLine ∧ ∃ l : List Nat, Pw.Pure l ∧ l.length = i + 1 ∧ SameX p H (upd H3 D (.lst (acc ++ [.str ⟨#[c]⟩]))) ∧ Dr p q ns (upd H3 D (.lst (acc ++ [.str ⟨#[c]⟩]))) ∧ (upd H3 D (.lst (acc ++ [.str ⟨#[c]⟩]))) D = some (.lst (Signs l)) := fun c hc => by
        refine ⟨_, h3, ?_, l ++ [c], ?_, ?_, ?_, ?_, ?_⟩
        · unfold Signs
          rw [List.length_map]
          exact small1000 (by omega)
        · intro d hd
          rcases List.mem_append.mp hd with z | z
          · exact hl d z
          · obtain rfl : d = c := by simpa using z
            exact hc
        · rw [List.length_append, hll]
          rfl
        · intro b o e ne
          rw [upd_ne (ne_of_none e nD)]
          exact sx3 b o (sx b o e ne) ne
        · obtain ⟨e1, a, b, c, e2, r⟩ := hD3
          have n1 : q ≠ D := ne_of_none hD.1 nD
          exact ⟨by rw [upd_ne n1]; exact e1, a, b, c, by rw [upd_ne (Ne.symm (pD nD))]; exact e2, r⟩
        · rw [upd_same]
          unfold Signs
          rw [List.map_append]
          rfl
      have hv : v = 0 ∨ v = 1 := by omega
      rcases hv with rfl | rfl
      · exact ⟨"01", 0, 48, rfl, rfl, by decide, rfl, fin 48 (.inl rfl)⟩
      · exact ⟨"01", 1, 49, rfl, rfl, by decide, rfl, fin 49 (.inr rfl)⟩
    · obtain ⟨l, hl, hll, sx, hD2, h2⟩ := h
      have e2 : Signs l = (l.map fun c => (⟨#[c]⟩ : Str)).map V.str := by
        unfold Signs
        rw [List.map_map]
        rfl
      rw [e2] at h2
      refine ⟨_, D, (l.map fun c => (⟨#[c]⟩ : Str)), rfl, rfl, .inl (SqL.of h2), ?_, ?_⟩
      · have e3 : ((l.map fun c => (⟨#[c]⟩ : Str)).map (·.length)).sum = l.length := by
          rw [List.map_map]
          clear e2 h2 hll hl
          induction l with
          | nil => rfl
          | cons c r ih =>
            rw [List.map_cons, List.sum_cons, ih, List.length_cons, Nat.add_comm]
            rfl
        rw [e3]
        show l.length + (l.map _).length * 0 ≤ _
        omega
      · refine k _ H2 ?_ ?_ sx hD2
        · rw [show Str.ofString "" = Str.empty from rfl, join_signs]
          exact hl
        · rw [show Str.ofString "" = Str.empty from rfl, join_signs]
          exact hll
end
section
variable {P : Program} {w : World} {K : PySem.W.Frag} {mg : Str → Option Value} {base : Heap}
/-- built-in names that the law reads -/
structure BN (mg : Str → Option Value) : Prop where
  isi : mg "isinstance" = none
  int : mg "int" = none
  bool : mg "bool" = none
  str : mg "str" = none
  tup : mg "tuple" = none
  lst : mg "list" = none
  len : mg "len" = none
  all : mg "all" = none
  rng : mg "range" = none
  max : mg "max" = none
  min : mg "min" = none
  abs : mg "abs" = none
  enu : mg "enumerate" = none
/-! _law_num -/
abbrev sNU : Stmt := topS 56
theorem scNU : FnScope ["_law_found"] ["_law_found"] (defScope sNU) := ⟨rfl, rfl, rfl, by decide +kernel, rfl, by decide +kernel, by decide +kernel⟩
def spNU : Sp := fun vs H Q _ => ∃ i : Int, vs = [.int i] ∧ Q (.bl true) H
theorem ok_nu {f : Addr} {fd : FuncData} {k : Nat} (F : Fun K "_law_num" "_law_num" sNU f fd) (B : BN mg) : FnOk P w K mg base CX0 (k + 1) f fd ["_law_found"] spNU := by
  refine F.ok scNU (fun vs H Q E h => ?_) (fun cdv A outer s H vs Q E hr h => ?_)
  · obtain ⟨i, rfl, _⟩ := h
    rfl
  · obtain ⟨i, rfl, q⟩ := h
    refine ⟨_, pss_one (ps_ret (pe_and (pe_callB call_isi (by rfl) B.isi (by decide +kernel) (pa_cons (pv 0) (pa_cons (pe_bltn (v := .ty "int") (by rfl) B.int (by decide +kernel) rfl) pa_nil)))
      (pe_one (pe_not (pe_callB call_isi (by rfl) B.isi (by decide +kernel) (pa_cons (pv 0) (pa_cons (pe_bltn (v := .ty "bool") (by rfl) B.bool (by decide +kernel) rfl) pa_nil))))))), ?_⟩
    refine ⟨.int i, rfl, .int i, .ty "int", .type "int", .type "int", true, rfl, .ty _, .base (.int i), kit_ty (by decide +kernel), true, rfl, iteT ?_⟩
    exact ⟨.int i, rfl, .int i, .ty "bool", .type "int", .type "bool", false, rfl, .ty _, .base (.int i), kit_ty (by decide +kernel), false, rfl, q⟩
/-! _law_like -/
abbrev sLK : Stmt := topS 57
theorem scLK : FnScope ["_law_found", "_law_due", "_law_k"] ["_law_found", "_law_due"] (defScope sLK) := ⟨rfl, rfl, rfl, by decide +kernel, rfl, by decide +kernel, by decide +kernel⟩
/-- two values that are alike, at most n deep -/
inductive Lk (K : PySem.W.Frag) (H : Hp) : Nat → V → V → Prop
  | non {n : Nat} : Lk K H n .non .non
  | bl {n : Nat} (b : Bool) : Lk K H n (.bl b) (.bl b)
  | int {n : Nat} (i : Int) : Lk K H n (.int i) (.int i)
  | str {n : Nat} (x : Str) : Lk K H n (.str x) (.str x)
  | lst {n : Nat} {a b : Addr} {xs ys : List V} (ha : SqL K H a xs) (hb : SqL K H b ys) (hl : xs.length = ys.length) (hz : xs.length ≤ 1001) (hi : ∀ (i : Nat) (x y : V), xs[i]? = some x → ys[i]? = some y → Lk K H n x y) : Lk K H (n + 1) (.ref a) (.ref b)
  | tup {n : Nat} {a b : Addr} {xs ys : List V} (ha : SqT K H a xs) (hb : SqT K H b ys) (hl : xs.length = ys.length) (hz : xs.length ≤ 1001) (hi : ∀ (i : Nat) (x y : V), xs[i]? = some x → ys[i]? = some y → Lk K H n x y) : Lk K H (n + 1) (.ref a) (.ref b)
/-- both are alike -/
def spLK (K : PySem.W.Frag) : Nat → Sp
  | 0 => fun _ _ _ _ => False
  | n + 1 => fun vs H Q _ => ∃ (v u : V), vs = [v, u] ∧ Lk K H n v u ∧ ∀ H', Same H H' → Q (.bl true) H'
theorem ty_list {H : Hp} {a : Addr} {xs : List V} (h : SqL K H a xs) : TyX K H (.ref a) (.type "list") := by
  rcases h with (h | ⟨o, h⟩) | ⟨o, its, n, h1, h2, _⟩
  · exact .base (.lst h)
  · exact .base (.frz h)
  · exact .kList h1 h2
theorem ty_tup {H : Hp} {a : Addr} {xs : List V} (h : SqT K H a xs) : TyX K H (.ref a) (.type "tuple") := by
  rcases h with (h | ⟨o, h⟩) | ⟨o, its, n, h1, h2, _⟩
  · exact .base (.tup h)
  · exact .fTuple h
  · exact .kTuple h1 h2
theorem Same.tup {H H' : Hp} {a : Addr} {xs : List V} (s : Same H H') (h : SqT K H a xs) : SqT K H' a xs := by
  rcases h with (h | ⟨o, h⟩) | h
  · exact .inl (.inl (s _ _ h))
  · exact .inl (.inr ⟨o, s _ _ h⟩)
  · exact .inr h
theorem Lk.same {H H' : Hp} (s : Same H H') : ∀ {n : Nat} {v u : V}, Lk K H n v u → Lk K H' n v u := by
  intro n v u h
  induction h with
  | non => exact .non
  | bl b => exact .bl b
  | int i => exact .int i
  | str x => exact .str x
  | lst ha hb hl hz _ ih => exact .lst (s.seq ha) (s.seq hb) hl hz ih
  | tup ha hb hl hz _ ih => exact .tup (Same.tup s ha) (Same.tup s hb) hl hz ih
theorem all_true (n : Nat) : (List.replicate n true).all id = true := by
  induction n with
  | zero => rfl
  | succ n ih => rw [List.replicate_succ, List.all_cons, ih]; rfl
theorem ok_lk {f fN : Addr} {fd fdN : FuncData} (F : Fun K "_law_like" "_law_like" sLK f fd) (B : BN mg) (fm : mg "_law_like" = some (.ref f)) (fk : PySem.W.keepIn K (.ref f) = true) (fb : Binds K fd ["_law_found", "_law_due"] [])
    (GN : FnOk P w K mg base CX0 1 fN fdN ["_law_found"] spNU) (nm : mg "_law_num" = some (.ref fN)) (nk : PySem.W.keepIn K (.ref fN) = true) (nb : Binds K fdN ["_law_found"] []) : ∀ n, FnOk P w K mg base CX0 (n + 1) f fd ["_law_found", "_law_due"] (spLK K n)
  | 0 => ⟨fun _ _ _ _ h => h.elim, fun _ _ _ _ _ _ _ _ _ _ _ _ _ h => h.elim⟩
  | n + 1 => by
    have G := ok_lk F B fm fk fb GN nm nk nb n
    refine F.ok scLK (fun vs H Q E h => ?_) (fun cdv A outer s H vs Q E hr h => ?_)
    · obtain ⟨v, u, rfl, _⟩ := h
      rfl
    · obtain ⟨v, u, rfl, hv, q⟩ := h
      have hr1 : Room 1 _ := hr.mono (Nat.le_add_left _ _)
      refine ⟨_, pss_cons (ps_if (pt_cmpR op_isN (pv 1) pe_non (nomark _)) (pss_one (ps_ret (pe_cmpR op_isN (pv 0) pe_non (nomark _)))) pss_nil)
        (pss_cons (ps_if (pt_val (pe_callB call_isi (by rfl) B.isi (by decide +kernel) (pa_cons (pv 1) (pa_cons (pe_bltn (v := .ty "bool") (by rfl) B.bool (by decide +kernel) rfl) pa_nil))))
          (pss_one (ps_ret (pe_and (pe_callB call_isi (by rfl) B.isi (by decide +kernel) (pa_cons (pv 0) (pa_cons (pe_bltn (v := .ty "bool") (by rfl) B.bool (by decide +kernel) rfl) pa_nil))) (pe_one (pe_cmpR op_eq (pv 0) (pv 1) (nomark _)))))) pss_nil)
        (pss_cons (ps_if (pt_val (pe_callB call_isi (by rfl) B.isi (by decide +kernel) (pa_cons (pv 1) (pa_cons (pe_bltn (v := .ty "int") (by rfl) B.int (by decide +kernel) rfl) pa_nil))))
          (pss_one (ps_ret (pe_and (pe_call GN hr1 rfl nm nk nb .nil pass0 (pa_cons (pv 0) pa_nil)) (pe_one (pe_cmpR op_eq (pv 0) (pv 1) (nomark _)))))) pss_nil)
        (pss_cons (ps_if (pt_val (pe_callB call_isi (by rfl) B.isi (by decide +kernel) (pa_cons (pv 1) (pa_cons (pe_bltn (v := .ty "str") (by rfl) B.str (by decide +kernel) rfl) pa_nil))))
          (pss_one (ps_ret (pe_and (pe_callB call_isi (by rfl) B.isi (by decide +kernel) (pa_cons (pv 0) (pa_cons (pe_bltn (v := .ty "str") (by rfl) B.str (by decide +kernel) rfl) pa_nil))) (pe_one (pe_cmpR op_eq (pv 0) (pv 1) (nomark _)))))) pss_nil)
        (pss_cons (ps_if (PW.pt (pw_or (pt_cmpR op_ne (pe_callB call_isi (by rfl) B.isi (by decide +kernel) (pa_cons (pv 1) (pa_cons (pe_bltn (v := .ty "tuple") (by rfl) B.tup (by decide +kernel) rfl) pa_nil))) (pe_callB call_isi (by rfl) B.isi (by decide +kernel) (pa_cons (pv 0) (pa_cons (pe_bltn (v := .ty "tuple") (by rfl) B.tup (by decide +kernel) rfl) pa_nil))) (nomark _))
            (pw_or1 (pt_cmpR op_ne (pe_callB call_isi (by rfl) B.isi (by decide +kernel) (pa_cons (pv 1) (pa_cons (pe_bltn (v := .ty "list") (by rfl) B.lst (by decide +kernel) rfl) pa_nil))) (pe_callB call_isi (by rfl) B.isi (by decide +kernel) (pa_cons (pv 0) (pa_cons (pe_bltn (v := .ty "list") (by rfl) B.lst (by decide +kernel) rfl) pa_nil))) (nomark _)))))
          (pss_one (ps_ret pe_bl)) pss_nil)
        (pss_cons (ps_if (pt_cmpR op_ne (pe_callB call_len_seq (by rfl) B.len PySem.boot_len (pa_cons (pv 0) pa_nil)) (pe_callB call_len_seq (by rfl) B.len PySem.boot_len (pa_cons (pv 1) pa_nil)) (nomark _)) (pss_one (ps_ret pe_bl)) pss_nil)
        (pss_one (ps_ret (pe_callB (cr_all rfl) (by rfl) B.all (by decide +kernel) (pa_cons (pe_lc (own := [("_law_k", 2)]) (g := gName 2) (tt := tYes) rfl scLK.nd (pi_range1 rfl B.rng (pa_cons (pe_callB call_len_seq (by rfl) B.len PySem.boot_len (pa_cons (pv 1) pa_nil)) pa_nil))
          (blkOk_by (N := ["_law_found", "_law_due", "_law_k"]) (sc := defScope sLK) (by decide +kernel)) (fun _ _ _ _ _ => pg_name (i := 2) scLK.nd rfl (Or.inl rfl)) (fun _ _ _ _ _ => pts_nil)
          (fun _ _ _ _ _ => pe_call G hr rfl fm fk fb .nil pass0 (pa_cons (pe_ix (r := rIx K) ix_seq (pv 0) (pv 2) (fun _ _ => rfl)) (pa_cons (pe_ix (r := rIx K) ix_seq (pv 1) (pv 2) (fun _ _ => rfl)) pa_nil)))) pa_nil))))))))), ?_⟩
      have q0 := q H (Same.refl H)
      cases hv with
      | non =>
        exact ⟨.non, rfl, rfl, true, rfl, iteT ⟨.non, rfl, rfl, q0⟩⟩
      | bl b =>
        refine ⟨.bl b, rfl, rfl, _, rfl, iteF ⟨.bl b, rfl, .bl b, .ty "bool", .type "bool", .type "bool", true, rfl, .ty _, .base (.bl b), kit_ty (by decide +kernel), _, rfl, iteT ?_⟩⟩
        refine ⟨.bl b, rfl, .bl b, .ty "bool", .type "bool", .type "bool", true, rfl, .ty _, .base (.bl b), kit_ty (by decide +kernel), true, rfl, iteT ⟨_, rfl, _, rfl, rfl, ?_⟩⟩
        rw [decide_eq_true rfl]
        exact q0
      | int i =>
        refine ⟨.int i, rfl, rfl, _, rfl, iteF ⟨.int i, rfl, .int i, .ty "bool", .type "int", .type "bool", false, rfl, .ty _, .base (.int i), kit_ty (by decide +kernel), _, rfl, iteF ?_⟩⟩
        refine ⟨.int i, rfl, .int i, .ty "int", .type "int", .type "int", true, rfl, .ty _, .base (.int i), kit_ty (by decide +kernel), _, rfl, iteT ?_⟩
        refine ⟨.int i, rfl, i, rfl, true, rfl, iteT ⟨_, rfl, _, rfl, rfl, ?_⟩⟩
        rw [decide_eq_true rfl]
        exact q0
      | str x =>
        refine ⟨.str x, rfl, rfl, _, rfl, iteF ⟨.str x, rfl, .str x, .ty "bool", .type "str", .type "bool", false, rfl, .ty _, .base (.str x), kit_ty (by decide +kernel), _, rfl, iteF ?_⟩⟩
        refine ⟨.str x, rfl, .str x, .ty "int", .type "str", .type "int", false, rfl, .ty _, .base (.str x), kit_ty (by decide +kernel), _, rfl, iteF ?_⟩
        refine ⟨.str x, rfl, .str x, .ty "str", .type "str", .type "str", true, rfl, .ty _, .base (.str x), kit_ty (by decide +kernel), _, rfl, iteT ?_⟩
        refine ⟨.str x, rfl, .str x, .ty "str", .type "str", .type "str", true, rfl, .ty _, .base (.str x), kit_ty (by decide +kernel), true, rfl, iteT ⟨_, rfl, _, rfl, rfl, ?_⟩⟩
        rw [decide_eq_true rfl]
        exact q0
      | @lst m a b xs ys ha hb hl hz hi =>
        refine ⟨.ref b, rfl, rfl, _, rfl, iteF ⟨.ref b, rfl, .ref b, .ty "bool", .type "list", .type "bool", false, rfl, .ty _, ty_list hb, kit_ty (by decide +kernel), _, rfl, iteF ?_⟩⟩
        refine ⟨.ref b, rfl, .ref b, .ty "int", .type "list", .type "int", false, rfl, .ty _, ty_list hb, kit_ty (by decide +kernel), _, rfl, iteF ?_⟩
        refine ⟨.ref b, rfl, .ref b, .ty "str", .type "list", .type "str", false, rfl, .ty _, ty_list hb, kit_ty (by decide +kernel), _, rfl, iteF ?_⟩
        refine ⟨.ref b, rfl, .ref b, .ty "tuple", .type "list", .type "tuple", false, rfl, .ty _, ty_list hb, kit_ty (by decide +kernel), .ref a, rfl, .ref a, .ty "tuple", .type "list", .type "tuple", false, rfl, .ty _, ty_list ha, kit_ty (by decide +kernel), rfl, _, rfl, iteF ?_⟩
        refine ⟨.ref b, rfl, .ref b, .ty "list", .type "list", .type "list", true, rfl, .ty _, ty_list hb, kit_ty (by decide +kernel), .ref a, rfl, .ref a, .ty "list", .type "list", .type "list", true, rfl, .ty _, ty_list ha, kit_ty (by decide +kernel), rfl, _, rfl, iteF ?_⟩
        refine ⟨.ref a, rfl, a, xs, rfl, .inl ha, .ref b, rfl, b, ys, rfl, .inl hb, rfl, _, rfl, ?_⟩
        rw [hl, decide_eq_true rfl]
        refine iteF ⟨.ref b, rfl, b, ys, rfl, .inl hb, (ys.length : Int), rfl, by omega, by omega, fun D nD => ?_⟩
        refine lc_range (lo := 0) (n := ys.length) (fun i H2 => Same H H2 ∧ H2 D = some (.lst ((List.replicate i true).map V.bl))) ⟨same_new nD, upd_same⟩ (fun i H2 hlt h => ?_) (fun H2 h => ?_)
        · obtain ⟨s2, h2⟩ := h
          have hx : xs[i]? = some (xs[i]'(by omega)) := List.getElem?_eq_getElem (by omega)
          have hy : ys[i]? = some ys[i] := List.getElem?_eq_getElem hlt
          have e0 : (0 + (i : Int)) = ((i : Nat) : Int) := Int.zero_add _
          refine ⟨rfl, .ref a, rfl, .int (0 + (i : Int)), rfl, .inl ⟨a, xs, 0 + (i : Int), _, rfl, rfl, s2.seq ha, at_of e0 hx, .ref b, rfl, .int (0 + (i : Int)), rfl, .inl ⟨b, ys, 0 + (i : Int), _, rfl, rfl, s2.seq hb, at_of e0 hy, _, _, rfl, (hi i _ _ hx hy).same s2, fun H3 s3 => ⟨_, s3 _ _ h2, ?_, same_put (s2.trans s3) nD, ?_⟩⟩⟩⟩
          · rw [List.length_map, List.length_replicate]
            exact Nat.lt_of_le_of_lt (by omega : i ≤ 1001) (by decide)
          · rw [upd_same, List.replicate_succ', List.map_append]
            rfl
        · obtain ⟨s2, h2⟩ := h
          refine ⟨D, List.replicate ys.length true, rfl, SqL.of h2, ?_⟩
          rw [all_true]
          exact q H2 s2
      | @tup m a b xs ys ha hb hl hz hi =>
        refine ⟨.ref b, rfl, rfl, _, rfl, iteF ⟨.ref b, rfl, .ref b, .ty "bool", .type "tuple", .type "bool", false, rfl, .ty _, ty_tup hb, kit_ty (by decide +kernel), _, rfl, iteF ?_⟩⟩
        refine ⟨.ref b, rfl, .ref b, .ty "int", .type "tuple", .type "int", false, rfl, .ty _, ty_tup hb, kit_ty (by decide +kernel), _, rfl, iteF ?_⟩
        refine ⟨.ref b, rfl, .ref b, .ty "str", .type "tuple", .type "str", false, rfl, .ty _, ty_tup hb, kit_ty (by decide +kernel), _, rfl, iteF ?_⟩
        refine ⟨.ref b, rfl, .ref b, .ty "tuple", .type "tuple", .type "tuple", true, rfl, .ty _, ty_tup hb, kit_ty (by decide +kernel), .ref a, rfl, .ref a, .ty "tuple", .type "tuple", .type "tuple", true, rfl, .ty _, ty_tup ha, kit_ty (by decide +kernel), rfl, _, rfl, iteF ?_⟩
        refine ⟨.ref b, rfl, .ref b, .ty "list", .type "tuple", .type "list", false, rfl, .ty _, ty_tup hb, kit_ty (by decide +kernel), .ref a, rfl, .ref a, .ty "list", .type "tuple", .type "list", false, rfl, .ty _, ty_tup ha, kit_ty (by decide +kernel), rfl, _, rfl, iteF ?_⟩
        refine ⟨.ref a, rfl, a, xs, rfl, .inr ha, .ref b, rfl, b, ys, rfl, .inr hb, rfl, _, rfl, ?_⟩
        rw [hl, decide_eq_true rfl]
        refine iteF ⟨.ref b, rfl, b, ys, rfl, .inr hb, (ys.length : Int), rfl, by omega, by omega, fun D nD => ?_⟩
        refine lc_range (lo := 0) (n := ys.length) (fun i H2 => Same H H2 ∧ H2 D = some (.lst ((List.replicate i true).map V.bl))) ⟨same_new nD, upd_same⟩ (fun i H2 hlt h => ?_) (fun H2 h => ?_)
        · obtain ⟨s2, h2⟩ := h
          have hx : xs[i]? = some (xs[i]'(by omega)) := List.getElem?_eq_getElem (by omega)
          have hy : ys[i]? = some ys[i] := List.getElem?_eq_getElem hlt
          have e0 : (0 + (i : Int)) = ((i : Nat) : Int) := Int.zero_add _
          refine ⟨rfl, .ref a, rfl, .int (0 + (i : Int)), rfl, .inr (.inl ⟨a, xs, 0 + (i : Int), _, rfl, rfl, Same.tup s2 ha, at_of e0 hx, .ref b, rfl, .int (0 + (i : Int)), rfl, .inr (.inl ⟨b, ys, 0 + (i : Int), _, rfl, rfl, Same.tup s2 hb, at_of e0 hy, _, _, rfl, (hi i _ _ hx hy).same s2, fun H3 s3 => ⟨_, s3 _ _ h2, ?_, same_put (s2.trans s3) nD, ?_⟩⟩)⟩)⟩
          · rw [List.length_map, List.length_replicate]
            exact Nat.lt_of_le_of_lt (by omega : i ≤ 1001) (by decide)
          · rw [upd_same, List.replicate_succ', List.map_append]
            rfl
        · obtain ⟨s2, h2⟩ := h
          refine ⟨D, List.replicate ys.length true, rfl, SqL.of h2, ?_⟩
          rw [all_true]
          exact q H2 s2
end
theorem smallB {n : Nat} (h : n ≤ 20003) : n < sizeLine := Nat.lt_of_le_of_lt h (by decide)
section
variable {P : Program} {w : World} {K : PySem.W.Frag} {mg : Str → Option Value} {base : Heap}
/-! _law_sums -/
abbrev sSU : Stmt := topS 59
theorem scSU : FnScope ["_law_row_here", "_law_found", "_law_sign"] ["_law_row_here"] (defScope sSU) := ⟨rfl, rfl, rfl, by decide +kernel, rfl, by decide +kernel, by decide +kernel⟩
def sumsN (l : List Nat) (n : Nat) : List Int := (List.range n).map fun i => (hiS (l.take i)).1
theorem sumsN_snoc (l : List Nat) (n : Nat) : sumsN l (n + 1) = sumsN l n ++ [(hiS (l.take n)).1] := by
  unfold sumsN
  rw [List.range_succ, List.map_append]
  rfl
theorem sumsN_len (l : List Nat) (n : Nat) : (sumsN l n).length = n := by simp [sumsN]
def spSU : Sp := fun vs H Q _ => ∃ x : Str, vs = [.str x] ∧ (tl x).length ≤ 20000 ∧ Pw.Pure (tl x) ∧ ∀ H' p, Same H H' → H p = none → H' p = some (.lst ((sums (tl x)).map V.int)) → Q (.ref p) H'
theorem ok_su {f : Addr} {fd : FuncData} {k : Nat} (F : Fun K "_law_sums" "_law_sums" sSU f fd) (mi : mg "int" = none) : FnOk P w K mg base CX0 (k + 1) f fd ["_law_row_here"] spSU := by
  refine F.ok scSU (fun vs H Q E h => ?_) (fun cdv A outer s H vs Q E hr h => ?_)
  · obtain ⟨x, rfl, _⟩ := h
    rfl
  · obtain ⟨x, rfl, hl, hp, q⟩ := h
    refine ⟨_, pss_cons (ps_set (i := 1) scSU.nd rfl (.inl rfl) (pe_lst (pa_cons pe_int pa_nil)))
      (pss_cons (ps_for PassesOwn.never rfl (pi_str (pv 0)) (pg_name (i := 2) scSU.nd rfl (.inl rfl))
        (pss_one (ps_expr (pe_bm PySem.F.plainAttrs_list PySem.F.slot_list_append PySem.F.type_list_append mt_append (pv 1)
          (pa_cons (pe_op op_sub (pe_op op_add (pe_ix ix_list (pv 1) (pe_un un_neg pe_int) (fun _ _ => rfl)) (pe_op op_mul pe_int (pe_callTy call_int_str (by rfl) mi (by decide +kernel) (pa_cons (pv 2) pa_nil)))) pe_int) pa_nil)))))
      (pss_one (ps_ret (pv 1)))), ?_⟩
    refine ⟨by show 1 ≤ sizeLine; decide, fun p np => ?_⟩
    refine ⟨.str x, rfl, x, rfl, for_str (x := x) (fun i σ H1 => (∃ y, σ = [some (.str x), some (.ref p), y]) ∧ Same H H1 ∧ H1 p = some (.lst ((sumsN (tl x) (i + 1)).map V.int))) ⟨⟨none, rfl⟩, same_new np, upd_same⟩ ?_ ?_⟩
    · rintro i c σ H1 hc ⟨⟨y, rfl⟩, sm, h1⟩
      have hc' : (tl x)[i]? = some c := by rw [← hc]; exact Array.getElem?_toList
      have hil : i < (tl x).length := (List.getElem?_eq_some_iff.mp hc').1
      have hcp := hp c (List.mem_of_getElem? hc')
      have e := hiS_snoc ((tl x).take i) c
      rw [← take_snoc hc'] at e
      have e1 : (hiS ((tl x).take (i + 1))).1 = Pw.step (hiS ((tl x).take i)).1 c := by rw [e]
      have hat : atI ((sumsN (tl x) (i + 1)).map V.int) (-1) = some (.int (hiS ((tl x).take i)).1) := by
        rw [sumsN_snoc, List.map_append]
        exact atI_last _ _
      have hz : ((sumsN (tl x) (i + 1)).map V.int).length < sizeLine := by
        rw [List.length_map, sumsN_len]
        exact smallB (by omega)
      have fin : ∀ d : Int, (hiS ((tl x).take i)).1 + 2 * d - 1 = (hiS ((tl x).take (i + 1))).1 →
          (∃ y, ([some (.str x), some (.ref p), some (V.str ⟨#[c]⟩)] : L2.St) = [some (.str x), some (.ref p), y]) ∧ Same H (upd H1 p (.lst ((sumsN (tl x) (i + 1)).map V.int ++ [.int ((hiS ((tl x).take i)).1 + 2 * d - 1)]))) ∧
            upd H1 p (.lst ((sumsN (tl x) (i + 1)).map V.int ++ [.int ((hiS ((tl x).take i)).1 + 2 * d - 1)])) p = some (.lst ((sumsN (tl x) (i + 1 + 1)).map V.int)) := fun d hd => by
        refine ⟨⟨_, rfl⟩, same_put sm np, ?_⟩
        rw [upd_same, sumsN_snoc (tl x) (i + 1), List.map_append, hd]
        rfl
      refine ⟨.ref p, rfl, .inl ⟨rfl, _, SqL.of h1⟩, .ref p, rfl, 1, rfl, p, _, -1, .int (hiS ((tl x).take i)).1, rfl, rfl, SqL.of h1, hat, ?_⟩
      rcases hcp with rfl | rfl
      · refine ⟨_, rfl, ⟨#[48]⟩, 0, rfl, by decide +kernel, by decide, 2, 0, rfl, rfl, .inl ⟨by decide, by decide⟩, _, _, rfl, rfl, _, 1, rfl, rfl, p, _, _, rfl, rfl, h1, hz, fin 0 ?_⟩
        rw [e1]
        unfold Pw.step
        rw [if_neg (by decide)]
        omega
      · refine ⟨_, rfl, ⟨#[49]⟩, 1, rfl, by decide +kernel, by decide, 2, 1, rfl, rfl, .inl ⟨by decide, by decide⟩, _, _, rfl, rfl, _, 1, rfl, rfl, p, _, _, rfl, rfl, h1, hz, fin 1 ?_⟩
        rw [e1]
        unfold Pw.step
        rw [if_pos rfl]
        omega
    · rintro σ H1 ⟨⟨y, rfl⟩, sm, h1⟩
      have e : x.cps.size = (tl x).length := by simp
      rw [e] at h1
      exact ⟨_, rfl, q H1 p sm np h1⟩
end
end K28

set_option Elab.async false
set_option linter.all false
set_option maxRecDepth 100000
set_option maxHeartbeats 4000000
namespace K28
open PySem PySem.Spec PyProof.Rows L2 Pw TL
section
variable {P : Program} {w : World} {K : PySem.W.Frag} {mg : Str → Option Value} {base : Heap}
theorem pure_ok {x : Str} (h : Pw.Pure (tl x)) : PyData.strOk x = true := by
  unfold PyData.strOk
  rw [Array.all_eq_true_iff_forall_mem]
  intro c hc
  have h2 := h c (Array.mem_toList_iff.mpr hc)
  rcases h2 with rfl | rfl <;> decide
theorem word_of {x : Str} (h : Pw.Pure (tl x)) (h1 : 1 ≤ (tl x).length) (h5 : (tl x).length ≤ 5) : wordB x = true := by
  unfold wordB
  rw [strange_none h, decide_eq_true ⟨h1, h5⟩]
  rfl
theorem eqV_str (a b : Str) : eqV (.str a) (.str b) = true ↔ a = b := by
  show (a == b) = true ↔ a = b
  exact beq_iff_eq
theorem inV_str (x : Str) (xs : List Str) : inV (.str x) (xs.map V.str) = true ↔ x ∈ xs := by
  unfold inV
  rw [List.any_eq_true]
  constructor
  · rintro ⟨y, h1, h2⟩
    obtain ⟨z, h3, rfl⟩ := List.mem_map.mp h1
    have := (eqV_str z x).mp h2
    rw [← this]
    exact h3
  · intro h
    exact ⟨.str x, List.mem_map.mpr ⟨x, h, rfl⟩, (eqV_str x x).mpr rfl⟩
/-! _law_word -/
abbrev sWD : Stmt := topS 66
theorem scWD : FnScope ["_law_draw"] ["_law_draw"] (defScope sWD) := ⟨rfl, rfl, rfl, by decide +kernel, rfl, by decide +kernel, by decide +kernel⟩
def spWD : Sp := fun vs H Q _ => ∃ (p q : Addr) (ns : List Int), vs = [.ref p] ∧ Dr p q ns H ∧ ∀ (x : Str) H', (tl x).length ≤ 5 → PyData.strOk x = true → wordB x = true → SameX p H H' → Dr p q ns H' → Q (.str x) H'
theorem Dr.nn {p q : Addr} {ns : List Int} {H : Hp} (h : Dr p q ns H) {a : Addr} (n : H a = none) : a ≠ p := fun e => by
  obtain ⟨_, _, _, _, hp, _⟩ := h
  rw [e, hp] at n
  cases n
theorem ok_wd {f fW : Addr} {fd fdW : FuncData} (F : Fun K "_law_word" "_law_word" sWD f fd) (R : PUOk P w K mg base) (GW : FnOk P w K mg base CX0 2 fW fdW ["_law_draw", "_law_many"] spRO) (wm : mg "_law_row" = some (.ref fW)) (wk : PySem.W.keepIn K (.ref fW) = true) (wb : Binds K fdW ["_law_draw", "_law_many"] []) :
    FnOk P w K mg base CX0 3 f fd ["_law_draw"] spWD := by
  obtain ⟨fR, fdR, G, gm, gk, gb⟩ := R.ex
  refine F.ok scWD (fun vs H Q E h => ?_) (fun cdv A outer s H vs Q E hr h => ?_)
  · obtain ⟨p, q, ns, rfl, _⟩ := h
    rfl
  · obtain ⟨p, q, ns, rfl, hD, k⟩ := h
    have hr1 : Room 1 _ := hr.mono (by decide)
    refine ⟨_, pss_one (ps_ret (pe_call GW hr rfl wm wk wb .nil pass0 (pa_cons (pv 0) (pa_cons (pe_op op_add pe_int (pe_call G hr1 rfl gm gk gb .nil pass0 (pa_cons (pv 0) (pa_cons (pe_ix ix_tup (pe_tup (pa_cons pe_int (pa_cons pe_int pa_nil))) (pe_call G hr1 rfl gm gk gb .nil pass0 (pa_cons (pv 0) (pa_cons pe_int pa_nil))) (fun _ _ => rfl)) pa_nil)))) pa_nil)))), ?_⟩
    refine ⟨.ref p, rfl, .ref p, rfl, by show 2 ≤ sizeLine; decide, fun T nT => ?_⟩
    have hD0 : Dr p q ns (upd H T (.tup [.int 3, .int 5])) := hD.same (same_new nT)
    have sx0 : SameX p H (upd H T (.tup [.int 3, .int 5])) := SameX.of (same_new nT)
    refine ⟨.ref p, rfl, p, q, ns, 2, rfl, by decide, by decide, hD0, fun v H1 v0 v1 sx1 hD1 => ?_⟩
    have hT : H1 T = some (.tup [.int 3, .int 5]) := sx1 _ _ upd_same (hD.nn nT)
    have hm : ∃ m : Int, atI [V.int 3, V.int 5] v = some (.int m) ∧ 0 < m ∧ m ≤ 5 := by
      have : v = 0 ∨ v = 1 := by omega
      rcases this with rfl | rfl
      · exact ⟨3, rfl, by decide, by decide⟩
      · exact ⟨5, rfl, by decide, by decide⟩
    obtain ⟨m, hm, m0, m5⟩ := hm
    refine ⟨T, _, v, .int m, rfl, rfl, .inl (.inl hT), hm, p, q, ns, m, rfl, m0, by omega, hD1, fun u H2 u0 u1 sx2 hD2 => ?_⟩
    have ev : (1 : Int) + u = (((1 + u).toNat : Nat) : Int) := by omega
    refine ⟨1, u, rfl, rfl, p, q, ns, (1 + u).toNat, ?_, by omega, hD2, fun x H3 hx hxl sx3 hD3 => ?_⟩
    · rw [← ev]
      rfl
    · exact k x H3 (by omega) (pure_ok hx) (word_of hx (by omega) (by omega)) (((sx0.trans sx1).trans sx2).trans sx3) hD3
theorem Dr.upd {p q l : Addr} {ns : List Int} {H : Hp} {o : HO} (h : Dr p q ns H) (n1 : l ≠ p) (n2 : l ≠ q) : Dr p q ns (L2.upd H l o) :=
  ⟨by rw [upd_ne n2.symm]; exact h.1, let ⟨a, b, c, e, r⟩ := h.2; ⟨a, b, c, by rw [upd_ne n1.symm]; exact e, r⟩⟩
/-! _law_words -/
abbrev sWS : Stmt := topS 67
theorem scWS : FnScope ["_law_draw", "_law_most", "_law_found", "_law_many", "_law_k", "_law_word_here"] ["_law_draw", "_law_most"] (defScope sWS) := ⟨rfl, rfl, rfl, by decide +kernel, rfl, by decide +kernel, by decide +kernel⟩
def Short (xs : List Str) : Prop := ∀ x ∈ xs, (tl x).length ≤ 1000 ∧ PyData.strOk x = true
def Good (xs : List Str) : Prop := xs.Nodup ∧ ∀ x ∈ xs, wordB x = true
def ShortG (xs : List Str) : Prop := Short xs ∧ Good xs
def spWS : Sp := fun vs H Q _ => ∃ (p q : Addr) (ns : List Int) (n : Nat), vs = [.ref p, .int (n : Nat)] ∧ n ≤ 20 ∧ Dr p q ns H ∧ ∀ (l : Addr) (xs : List Str) H', xs.length ≤ 6 → ShortG xs → H l = none → H' l = some (.lst (xs.map V.str)) → SameX p H H' → Dr p q ns H' → Q (.ref l) H'
theorem flat_strs (xs : List Str) : (xs.map V.str).all flatV = true := by
  induction xs with
  | nil => rfl
  | cons x r ih =>
    rw [List.map_cons, List.all_cons, ih]
    rfl
theorem ok_ws {f fW : Addr} {fd fdW : FuncData} (F : Fun K "_law_words" "_law_words" sWS f fd) (B : BN mg) (R : PUOk P w K mg base) (GW : FnOk P w K mg base CX0 3 fW fdW ["_law_draw"] spWD) (wm : mg "_law_word" = some (.ref fW)) (wk : PySem.W.keepIn K (.ref fW) = true) (wb : Binds K fdW ["_law_draw"] []) :
    FnOk P w K mg base CX0 4 f fd ["_law_draw", "_law_most"] spWS := by
  obtain ⟨fR, fdR, G, gm, gk, gb⟩ := R.ex
  refine F.ok scWS (fun vs H Q E h => ?_) (fun cdv A outer s H vs Q E hr h => ?_)
  · obtain ⟨p, q, ns, n, rfl, _⟩ := h
    rfl
  · obtain ⟨p, q, ns, n, rfl, hn, hD, k⟩ := h
    have hr1 : Room 1 _ := hr.mono (by decide)
    refine ⟨_, pss_cons (ps_set (i := 2) scWS.nd rfl (.inl rfl) (pe_lst pa_nil))
      (pss_cons (ps_set (i := 3) scWS.nd rfl (.inl rfl) (pe_op op_add (pe_call G hr1 rfl gm gk gb .nil pass0 (pa_cons (pv 0) (pa_cons (pe_op op_add (pv 1) pe_int) pa_nil)))
        (pe_op op_mul pe_int (pe_callTy call_int1 (by rfl) B.int (by decide +kernel) (pa_cons (pe_cmpR op_eq (pe_call G hr1 rfl gm gk gb .nil pass0 (pa_cons (pv 0) (pa_cons pe_int pa_nil))) pe_int (nomark _)) pa_nil)))))
      (pss_cons (ps_for PassesOwn.never rfl (pi_range1 rfl B.rng (pa_cons (pv 3) pa_nil)) (pg_name (i := 4) scWS.nd rfl (.inl rfl))
        (pss_cons (ps_set (i := 5) scWS.nd rfl (.inl rfl) (pe_call GW hr rfl wm wk wb .nil pass0 (pa_cons (pv 0) pa_nil)))
        (pss_one (ps_if (PW.pt (pw_and (pt_cmpR op_notIn_seq (pv 5) (pv 2) (by rfl)) (pw_and1 (pt_cmpR op_gt (pe_callB call_len_str (by rfl) B.len PySem.boot_len (pa_cons (pv 5) pa_nil)) pe_int (nomark _)))))
          (pss_one (ps_expr (pe_bm PySem.F.plainAttrs_list PySem.F.slot_list_append PySem.F.type_list_append mt_append (pv 2) (pa_cons (pv 5) pa_nil)))) pss_nil))))
      (pss_one (ps_ret (pe_slice sl_list (pv 2) po_none (po_some pe_int)))))), ?_⟩
    refine ⟨by show 0 ≤ sizeLine; decide, fun l nl => ?_⟩
    have lp : l ≠ p := hD.nn nl
    have hD0 : Dr p q ns (upd H l (.lst [])) := hD.same (same_new nl)
    refine ⟨.ref p, rfl, _, rfl, _, 1, rfl, rfl, p, q, ns, (n : Int) + 1, rfl, by omega, by omega, hD0, fun v H1 v0 v1 sx1 hD1 => ?_⟩
    refine ⟨.ref p, rfl, p, q, ns, 8, rfl, by decide, by decide, hD1, fun u H2 _ _ sx2 hD2 => ?_⟩
    obtain ⟨m, em, hm⟩ : ∃ m : Nat, v + 2 * (if decide (V.int u = V.int 0) = true then (1 : Int) else 0) = (m : Int) ∧ m ≤ 22 := by
      refine ⟨(v + 2 * (if decide (V.int u = V.int 0) = true then (1 : Int) else 0)).toNat, ?_, ?_⟩ <;> split <;> omega
    refine ⟨rfl, .inr ⟨_, rfl, 2, _, rfl, rfl, ?_, v, _, rfl, rfl, ?_⟩⟩
    · exact .inl ⟨by decide, by decide⟩
    dsimp only
    rw [em]
    have sx : SameX p (upd H l (.lst [])) H2 := sx1.trans sx2
    have nlp : upd H l (.lst []) l = some (.lst (([] : List Str).map V.str)) := upd_same
    refine ⟨_, rfl, (m : Int), rfl, by omega, by omega, for_range (lo := 0) (n := m) (fun i σ H3 => (∃ y4 y5, σ = [some (.ref p), some (.int (n : Nat)), some (.ref l), some (.int (m : Nat)), y4, y5]) ∧ Dr p q ns H3 ∧ (∃ xs : List Str, H3 l = some (.lst (xs.map V.str)) ∧ xs.length ≤ i ∧ ShortG xs) ∧ (∀ b o, H b = some o → b ≠ p → H3 b = some o))
      ⟨⟨none, none, rfl⟩, hD2, ⟨[], sx _ _ nlp lp, Nat.le_refl _, (fun x hx => nomatch hx), List.nodup_nil, fun x hx => nomatch hx⟩, fun b o e ne => sx b o ((same_new nl) b o e) ne⟩ (fun i σ H3 _ h => ?_) (fun σ H3 h => ?_)⟩
    · obtain ⟨⟨y4, y5, rfl⟩, hD3, ⟨xs, hl3, hxi, hxs⟩, fr⟩ := h
      refine ⟨.ref p, rfl, p, q, ns, rfl, hD3, fun x H4 hx hok4 hwx sx4 hD4 => ?_⟩
      have hl4 : H4 l = some (.lst (xs.map V.str)) := sx4 _ _ hl3 lp
      have hz : x.length ≤ sizeLine := by
        rw [len_tl]
        exact Nat.le_of_lt (small1000 (by omega))
      have out : (∃ y4 y5, [some (V.ref p), some (.int (n : Nat)), some (.ref l), some (.int (m : Nat)), some (.int (0 + (i : Int))), some (.str x)] = [some (V.ref p), some (.int (n : Nat)), some (.ref l), some (.int (m : Nat)), y4, y5]) ∧ Dr p q ns H4 ∧ (∃ xs : List Str, H4 l = some (.lst (xs.map V.str)) ∧ xs.length ≤ i + 1 ∧ ShortG xs) ∧ (∀ b o, H b = some o → b ≠ p → H4 b = some o) :=
        ⟨⟨_, _, rfl⟩, hD4, ⟨xs, hl4, by omega, hxs⟩, fun b o e ne => sx4 b o (fr b o e ne) ne⟩
      refine ⟨_, rfl, _, rfl, l, _, rfl, .inl (SqL.of hl4), rfl, flat_strs xs, _, rfl, ite2 (fun hni => ?_) (fun _ => iteF out)⟩
      have hni' : x ∉ xs := fun z => by
        have h1 := (inV_str x xs).mpr z
        have h2 : (!inV (.str x) (xs.map V.str)) = true := hni
        rw [h1] at h2
        cases h2
      refine ⟨_, rfl, x, rfl, hz, _, _, rfl, rfl, _, rfl, ite2 (fun _ => ?_) (fun _ => out)⟩
      refine ⟨.ref l, rfl, .inl ⟨rfl, _, SqL.of hl4⟩, _, rfl, l, _, _, rfl, rfl, hl4, ?_, ?_⟩
      · rw [List.length_map]
        exact small1000 (by omega)
      · refine ⟨⟨_, _, rfl⟩, ?_, ⟨xs ++ [x], ?_, ?_, ?_⟩, fun b o e ne => ?_⟩
        · exact hD4.upd lp (ne_of_none hD.1 nl).symm
        · rw [upd_same, List.map_append]
          rfl
        · rw [List.length_append]
          show xs.length + 1 ≤ i + 1
          omega
        · refine ⟨fun z hz2 => ?_, ?_, fun z hz2 => ?_⟩
          · rcases List.mem_append.mp hz2 with h | h
            · exact hxs.1 z h
            · rw [List.mem_singleton.mp h]
              exact ⟨by omega, hok4⟩
          · rw [List.nodup_append]
            refine ⟨hxs.2.1, List.nodup_cons.mpr ⟨(fun z => nomatch z), List.nodup_nil⟩, fun a ha b hb e => ?_⟩
            rw [List.mem_singleton.mp hb] at e
            exact hni' (e ▸ ha)
          · rcases List.mem_append.mp hz2 with h | h
            · exact hxs.2.2 z h
            · rw [List.mem_singleton.mp h]
              exact hwx
        · rw [upd_ne (ne_of_none e nl)]
          exact sx4 b o (fr b o e ne) ne
    · obtain ⟨⟨y4, y5, rfl⟩, hD3, ⟨xs, hl3, hxi, hxs⟩, fr⟩ := h
      refine ⟨.ref l, rfl, 6, rfl, l, _, rfl, SqL.of hl3, fun t nt => ?_⟩
      have ec : cutV (xs.map V.str) none (some 6) = (xs.take 6).map V.str := by
        unfold cutV
        rw [show HT.sIx (xs.map V.str).length (xs.map V.str).length (some 6) = min 6 (xs.map V.str).length from HT.sIx_nat _ _ 6]
        show List.take (min 6 (xs.map V.str).length - 0) (xs.map V.str) = _
        rw [Nat.sub_zero, List.map_take]
        exact (List.take_eq_take_min).symm
      rw [ec]
      have tH : H t = none := by
        cases e : H t with
        | none => rfl
        | some o =>
          by_cases ht : t = p
          · exact absurd ht (hD3.nn nt)
          · rw [fr t o e ht] at nt
            cases nt
      refine k t (xs.take 6) _ ?_ ⟨fun z hz => hxs.1 z (List.mem_of_mem_take hz), hxs.2.1.sublist (List.take_sublist _ _), fun z hz => hxs.2.2 z (List.mem_of_mem_take hz)⟩ tH upd_same ?_ (hD3.same (same_new nt))
      · rw [List.length_take]
        omega
      · exact SameX.new (fun b o e ne => fr b o e ne) nt
end
end K28

set_option Elab.async false
set_option linter.all false
set_option maxRecDepth 100000
set_option maxHeartbeats 4000000
namespace K28
open PySem PySem.Spec PyProof.Rows L2 Pw TL
section
variable {P : Program} {w : World} {K : PySem.W.Frag} {mg : Str → Option Value} {base : Heap}
/-- since H only the draw has moved on, and new things were made -/
structure Go (p q : Addr) (ns : List Int) (H H1 : Hp) : Prop where
  sx : SameX p H H1
  dr : Dr p q ns H1
theorem Go.refl {p q : Addr} {ns : List Int} {H : Hp} (h : Dr p q ns H) : Go p q ns H H := ⟨SameX.refl p H, h⟩
theorem Go.next {p q : Addr} {ns : List Int} {H H1 H2 : Hp} (g : Go p q ns H H1) (s : SameX p H1 H2) (d : Dr p q ns H2) : Go p q ns H H2 := ⟨g.sx.trans s, d⟩
theorem Go.new {p q T : Addr} {ns : List Int} {H H1 : Hp} {o : HO} (g : Go p q ns H H1) (n : H1 T = none) : Go p q ns H (upd H1 T o) := ⟨g.sx.new n, g.dr.same (same_new n)⟩
theorem Go.free {p q T : Addr} {ns : List Int} {H H1 : Hp} (g : Go p q ns H H1) (n : H1 T = none) : H T = none := by
  cases e : H T with
  | none => rfl
  | some o =>
    by_cases h : T = p
    · exact absurd h (g.dr.nn n)
    · rw [g.sx T o e h] at n
      cases n
theorem Go.keep {p q T : Addr} {ns : List Int} {H H1 : Hp} {o : HO} (g : Go p q ns H H1) (e : H T = some o) (n : T ≠ p) : H1 T = some o := g.sx T o e n
/-! _law_parts -/
abbrev sPA : Stmt := topS 68
theorem scPA : FnScope ["_law_draw", "_law_way", "_law_least", "_law_upper", "_law_bars", "_law_wide"] ["_law_draw"] (defScope sPA) := ⟨rfl, rfl, rfl, by decide +kernel, rfl, by decide +kernel, by decide +kernel⟩
/-- four parts as a tuple at T, its words as a tuple at t -/
def Parts (H : Hp) (T t : Addr) (xs : List Str) (lo : Int) (hi wd : Option Int) : Prop := H T = some (.tup [.ref t, .int lo, vI hi, vI wd]) ∧ H t = some (.tup (xs.map V.str))
def spPA (N : Nat) : Sp := fun vs H Q _ => ∃ (p q : Addr) (ns : List Int), vs = [.ref p] ∧ Dr p q ns H ∧ ∀ (T t : Addr) (xs : List Str) (lo : Int) (hi wd : Option Int) H', xs.length ≤ N → ShortG xs → sortedS xs = true → partBad xs lo hi wd = none → H T = none → H t = none → Parts H' T t xs lo hi wd → Go p q ns H H' → Q (.ref T) H'
theorem parts_ok {xs : List Str} {lo : Int} {hi wd : Option Int} (h6 : xs.length ≤ 6) (hg : Good xs) (l0 : 0 ≤ lo) (l4 : lo < 4) (hh : ∀ h, hi = some h → max 1 lo ≤ h ∧ h ≤ 7) (hw : ∀ k, wd = some k → 1 ≤ k ∧ k ≤ 4) : partBad xs lo hi wd = none := by
  have e1 : wordsB xs = true := by
    unfold wordsB
    rw [decide_eq_true h6, decide_eq_true ((cntD_nodup xs).mpr hg.1)]
    exact List.all_eq_true.mpr hg.2
  have e2 : lowB lo = true := decide_eq_true ⟨l0, by omega⟩
  have e3 : highB lo hi = true := by
    cases hi with
    | none => rfl
    | some h => exact decide_eq_true (hh h rfl)
  have e4 : spanB wd = true := by
    cases wd with
    | none => rfl
    | some h => exact decide_eq_true (hw h rfl)
  unfold partBad
  rw [if_pos e1, if_pos e2, if_pos e3, if_pos e4]
def inTup (ps : List Int) (v : Int) : Bool := inV (.int v) (ps.map V.int)
theorem flat_ints (xs : List Int) : (xs.map V.int).all flatV = true := by
  induction xs with
  | nil => rfl
  | cons x r ih =>
    rw [List.map_cons, List.all_cons, ih]
    rfl
theorem ok_pa {f fW : Addr} {fd fdW : FuncData} (F : Fun K "_law_parts" "_law_parts" sPA f fd) (B : BN mg) (ms : mg "sorted" = none) (R : PUOk P w K mg base) (GW : FnOk P w K mg base CX0 4 fW fdW ["_law_draw", "_law_most"] spWS) (wm : mg "_law_words" = some (.ref fW)) (wk : PySem.W.keepIn K (.ref fW) = true) (wb : Binds K fdW ["_law_draw", "_law_most"] []) :
    FnOk P w K mg base CX0 5 f fd ["_law_draw"] (spPA 6) := by
  obtain ⟨fR, fdR, G, gm, gk, gb⟩ := R.ex
  refine F.ok scPA (fun vs H Q E h => ?_) (fun cdv A outer s H vs Q E hr h => ?_)
  · obtain ⟨p, q, ns, rfl, _⟩ := h
    rfl
  · obtain ⟨p, q, ns, rfl, hD, k⟩ := h
    have hr1 : Room 1 _ := hr.mono (by decide)
    refine ⟨_, pss_cons (ps_set (i := 1) scPA.nd rfl (.inl rfl) (pe_call G hr1 rfl gm gk gb .nil pass0 (pa_cons (pv 0) (pa_cons pe_int pa_nil))))
      (C8.pss_cut (ps_set (i := 2) scPA.nd rfl (.inl rfl) (pe_ifExp (pt_cmpR op_in_seq (pv 1) (pe_tup (pa_cons pe_int (pa_cons pe_int (pa_cons pe_int (pa_cons pe_int (pa_cons pe_int pa_nil)))))) (by rfl)) (pe_call G hr1 rfl gm gk gb .nil pass0 (pa_cons (pv 0) (pa_cons pe_int pa_nil))) pe_int))
      (pss_cons (ps_set (i := 3) scPA.nd rfl (.inl rfl) pe_non)
      (C8.pss_cut (ps_if (PW.pt (pw_or (pt_cmpR op_in_seq (pv 1) (pe_tup (pa_cons pe_int (pa_cons pe_int (pa_cons pe_int pa_nil)))) (by rfl)) (pw_or1 (PW.pt (pw_and (pt_cmpR op_in_seq (pv 1) (pe_tup (pa_cons pe_int (pa_cons pe_int (pa_cons pe_int pa_nil)))) (by rfl))
          (pw_and1 (pt_cmpR op_eq (pe_call G hr1 rfl gm gk gb .nil pass0 (pa_cons (pv 0) (pa_cons pe_int pa_nil))) pe_int (nomark _))))))))
        (pss_one (ps_set (i := 3) scPA.nd rfl (.inl rfl) (pe_op op_add (pe_callB (call_max2 rfl) (by rfl) B.max (by decide +kernel) (pa_cons pe_int (pa_cons (pv 2) pa_nil))) (pe_call G hr1 rfl gm gk gb .nil pass0 (pa_cons (pv 0) (pa_cons (pe_op op_sub pe_int (pe_callB (call_max2 rfl) (by rfl) B.max (by decide +kernel) (pa_cons pe_int (pa_cons (pv 2) pa_nil)))) pa_nil)))))) pss_nil)
      (C8.pss_cut (ps_set (i := 4) scPA.nd rfl (.inl rfl) (pe_ifExp (pt_cmpR op_in_seq (pv 1) (pe_tup (pa_cons pe_int (pa_cons pe_int (pa_cons pe_int (pa_cons pe_int (pa_cons pe_int pa_nil)))))) (by rfl)) (pe_call GW hr rfl wm wk wb .nil pass0 (pa_cons (pv 0) (pa_cons pe_int pa_nil))) (pe_lst pa_nil)))
      (C8.pss_cut (ps_set (i := 5) scPA.nd rfl (.inl rfl) (pe_ifExp (pt_cmpR op_in_seq (pv 1) (pe_tup (pa_cons pe_int (pa_cons pe_int (pa_cons pe_int (pa_cons pe_int pa_nil))))) (by rfl)) (pe_op op_add pe_int (pe_call G hr1 rfl gm gk gb .nil pass0 (pa_cons (pv 0) (pa_cons pe_int pa_nil)))) pe_non))
      (pss_one (ps_ret (pe_tup (pa_cons (pe_callTy call_tuple_of (by rfl) B.tup (by decide +kernel) (pa_cons (pe_callB cr_sortedS (by rfl) ms (by decide +kernel) (pa_cons (pv 4) pa_nil)) pa_nil)) (pa_cons (pv 2) (pa_cons (pv 3) (pa_cons (pv 5) pa_nil)))))))))))), ?_⟩
    refine ⟨.ref p, rfl, p, q, ns, 10, rfl, by decide, by decide, hD, fun v H1 v0 v1 sx1 hD1 => ?_⟩
    have g1 := (Go.refl hD).next sx1 hD1
    refine ⟨fun σ H2 => (∃ lo : Int, 0 ≤ lo ∧ lo < 4 ∧ σ = [some (.ref p), some (.int v), some (.int lo), none, none, none]) ∧ Go p q ns H H2, ?_, ?_⟩
    · refine ⟨.int v, rfl, by show 5 ≤ sizeLine; decide, fun T nT => ?_⟩
      have g2 := g1.new (o := .tup [.int 0, .int 1, .int 2, .int 8, .int 9]) nT
      refine ⟨T, _, rfl, .inr (.inl (.inl upd_same)), rfl, flat_ints [0, 1, 2, 8, 9], _, rfl, ite2 (fun _ => ?_) (fun _ => ?_)⟩
      · exact ⟨.ref p, rfl, p, q, ns, 4, rfl, by decide, by decide, g2.dr, fun u H3 u0 u1 sx3 hD3 => ⟨⟨u, u0, u1, rfl⟩, g2.next sx3 hD3⟩⟩
      · exact ⟨⟨0, by decide, by decide, rfl⟩, g2⟩
    rintro σ H2 ⟨⟨lo, lo0, lo4, rfl⟩, g2⟩
    refine ⟨fun σ H3 => (∃ hi : Option Int, (∀ h, hi = some h → max 1 lo ≤ h ∧ h ≤ 7) ∧ σ = [some (.ref p), some (.int v), some (.int lo), some (vI hi), none, none]) ∧ Go p q ns H H3, ?_, ?_⟩
    · refine ⟨.int v, rfl, by show 3 ≤ sizeLine; decide, fun T nT => ?_⟩
      have g3 := g2.new (o := .tup [.int 0, .int 2, .int 6]) nT
      refine ⟨T, _, rfl, .inr (.inl (.inl upd_same)), rfl, flat_ints [0, 2, 6], _, rfl, ite2 (fun _ => ?_) (fun _ => ?_)⟩
      · refine iteT ?_
        refine ⟨_, rfl, 1, lo, rfl, .ref p, rfl, _, rfl, 1, lo, rfl, 8, _, rfl, rfl, p, q, ns, _, rfl, ?_, ?_, g3.dr, fun u H5 u0 u1 sx5 hD5 => ⟨_, _, rfl, rfl, ⟨some _, (fun h e => ?_), rfl⟩, g3.next sx5 hD5⟩⟩
        · split <;> omega
        · split <;> omega
        · rw [← Option.some.inj e]
          split at u1 <;> split <;> omega
      · refine ⟨.int v, rfl, by show 3 ≤ sizeLine; decide, fun T2 nT2 => ?_⟩
        have g4 := g3.new (o := .tup [.int 3, .int 8, .int 9]) nT2
        refine ⟨T2, _, rfl, .inr (.inl (.inl upd_same)), rfl, flat_ints [3, 8, 9], _, rfl, ite2 (fun _ => ?_) (fun _ => iteF ⟨⟨none, (fun h e => nomatch e), rfl⟩, g4⟩)⟩
        refine ⟨.ref p, rfl, p, q, ns, 2, rfl, by decide, by decide, g4.dr, fun z H4 _ _ sx4 hD4 => ⟨rfl, _, rfl, ite2 (fun _ => ?_) (fun _ => ⟨⟨none, (fun h e => nomatch e), rfl⟩, g4.next sx4 hD4⟩)⟩⟩
        have g5 := g4.next sx4 hD4
        refine ⟨_, rfl, 1, lo, rfl, .ref p, rfl, _, rfl, 1, lo, rfl, 8, _, rfl, rfl, p, q, ns, _, rfl, ?_, ?_, g5.dr, fun u H5 u0 u1 sx5 hD5 => ⟨_, _, rfl, rfl, ⟨some _, (fun h e => ?_), rfl⟩, g5.next sx5 hD5⟩⟩
        · split <;> omega
        · split <;> omega
        · rw [← Option.some.inj e]
          split at u1 <;> split <;> omega
    rintro σ H3 ⟨⟨hi, hhi, rfl⟩, g3⟩
    refine ⟨fun σ H4 => (∃ (l : Addr) (xs : List Str), σ = [some (.ref p), some (.int v), some (.int lo), some (vI hi), some (.ref l), none] ∧ H4 l = some (.lst (xs.map V.str)) ∧ l ≠ p ∧ xs.length ≤ 6 ∧ ShortG xs) ∧ Go p q ns H H4, ?_, ?_⟩
    · refine ⟨.int v, rfl, by show 5 ≤ sizeLine; decide, fun T nT => ?_⟩
      have g4 := g3.new (o := .tup [.int 2, .int 3, .int 4, .int 7, .int 9]) nT
      refine ⟨T, _, rfl, .inr (.inl (.inl upd_same)), rfl, flat_ints [2, 3, 4, 7, 9], _, rfl, ite2 (fun _ => ?_) (fun _ => ?_)⟩
      · exact ⟨.ref p, rfl, p, q, ns, 4, rfl, by decide, g4.dr, fun l xs H5 h6 hs nl hl sx5 hD5 => ⟨⟨l, xs, rfl, hl, g4.dr.nn nl, h6, hs⟩, g4.next sx5 hD5⟩⟩
      · exact ⟨by show 0 ≤ sizeLine; decide, fun l nl => ⟨⟨l, [], rfl, upd_same, g4.dr.nn nl, by decide, (fun x hx => nomatch hx), List.nodup_nil, fun x hx => nomatch hx⟩, g4.new nl⟩⟩
    rintro σ H4 ⟨⟨l, xs, rfl, hl, lp, h6, hs⟩, g4⟩
    refine ⟨fun σ H5 => (∃ wd : Option Int, (∀ k, wd = some k → 1 ≤ k ∧ k ≤ 4) ∧ σ = [some (.ref p), some (.int v), some (.int lo), some (vI hi), some (.ref l), some (vI wd)]) ∧ H5 l = some (.lst (xs.map V.str)) ∧ Go p q ns H H5, ?_, ?_⟩
    · refine ⟨.int v, rfl, by show 4 ≤ sizeLine; decide, fun T nT => ?_⟩
      have g5 := g4.new (o := .tup [.int 5, .int 7, .int 8, .int 9]) nT
      have hl5 : upd H4 T (.tup [.int 5, .int 7, .int 8, .int 9]) l = some (.lst (xs.map V.str)) := same_new nT _ _ hl
      refine ⟨T, _, rfl, .inr (.inl (.inl upd_same)), rfl, flat_ints [5, 7, 8, 9], _, rfl, ite2 (fun _ => ?_) (fun _ => ?_)⟩
      · exact ⟨.ref p, rfl, p, q, ns, 4, rfl, by decide, by decide, g5.dr, fun u H6 u0 u1 sx6 hD6 => ⟨_, _, rfl, rfl, ⟨some _, (fun h e => by rw [← Option.some.inj e]; omega), rfl⟩, sx6 _ _ hl5 lp, g5.next sx6 hD6⟩⟩
      · exact ⟨⟨none, (fun h e => nomatch e), rfl⟩, hl5, g5⟩
    rintro σ H5 ⟨⟨wd, hwd, rfl⟩, hl5, g5⟩
    refine ⟨_, rfl, l, xs, rfl, SqL.of hl5, by omega, fun ys a hp hsrt na => ?_⟩
    have g6 := g5.new (o := .lst (ys.map V.str)) na
    refine ⟨a, _, rfl, .inl ⟨SqL.of upd_same, fun t nt => ?_⟩⟩
    have g7 := g6.new (o := .tup (ys.map V.str)) nt
    refine ⟨_, rfl, _, rfl, _, rfl, by show 4 ≤ sizeLine; decide, fun T nT => ?_⟩
    have e : t ≠ T := ne_of_none upd_same nT
    have hgy : Good ys := ⟨hp.nodup_iff.mpr hs.2.1, fun z hz => hs.2.2 z (hp.mem_iff.mp hz)⟩
    refine k T t ys lo hi wd _ ?_ ⟨fun z hz => hs.1 z (hp.mem_iff.mp hz), hgy⟩ hsrt (parts_ok (by rw [hp.length_eq]; exact h6) hgy lo0 lo4 hhi hwd) (g7.free nT) (g6.free nt) ⟨upd_same, ?_⟩ (g7.new nT)
    · rw [hp.length_eq]
      exact h6
    · rw [upd_ne e, upd_same]
end
end K28

set_option Elab.async false
set_option linter.all false
set_option maxRecDepth 100000
set_option maxHeartbeats 4000000
namespace K28
open PySem PySem.Spec PyProof.Rows L2 Pw TL
section
variable {P : Program} {w : World} {K : PySem.W.Frag} {mg : Str → Option Value} {base : Heap}
/-- a def as its callers have it -/
structure UseD (P : Program) (w : World) (K : PySem.W.Frag) (mg : Str → Option Value) (base : Heap) (CX : CXT) (k : Nat) (x : Str) (ps : List Str) (sp : Sp) : Prop where
  ex : ∃ (f : Addr) (fd : FuncData), FnOk P w K mg base CX k f fd ps sp ∧ mg x = some (.ref f) ∧ PySem.W.keepIn K (.ref f) = true ∧ Binds K fd ps []
/-- a method as its callers have it -/
structure UseM (P : Program) (w : World) (K : PySem.W.Frag) (mg : Str → Option Value) (base : Heap) (CX : CXT) (k : Nat) (R : Addr) (x : Str) (ps : List Str) (sp : Sp) : Prop where
  ex : ∃ (f : Addr) (fd : FuncData), FnOk P w K mg base CX k f fd ps sp ∧ Meth K R x f ∧ Binds K fd ps []
theorem lk_strs {H : Hp} {n : Nat} {r g : Addr} {l : List Str} (h1 : H r = some (.lst (l.map V.str))) (h2 : H g = some (.lst (l.map V.str))) (hl : l.length ≤ 1001) : Lk K H (n + 1) (.ref r) (.ref g) :=
  .lst (SqL.of h1) (SqL.of h2) rfl (by rw [List.length_map]; exact hl) (fun i a b ha hb => by
    rw [ha] at hb
    obtain rfl : a = b := Option.some.inj hb
    rw [List.getElem?_map] at ha
    cases e : l[i]? with
    | none =>
      rw [e] at ha
      cases ha
    | some z =>
      rw [e] at ha
      obtain rfl : V.str z = a := Option.some.inj ha
      exact .str z)
theorem lk_vI {H : Hp} {n : Nat} (o : Option Int) : Lk K H n (vI o) (vI o) := by
  cases o with
  | none => exact .non
  | some i => exact .int i
abbrev dR : List V := [.non, .int 0, .non, .non]
abbrev psR : List Str := ["self", "words", "low", "high", "span"]
/-- how a rule is made -/
structure RMk (P : Program) (w : World) (K : PySem.W.Frag) (mg : Str → Option Value) (base : Heap) (R C : Addr) : Prop where
  ex : ∃ (f : Addr) (fd : FuncData), FnOk P w K mg base (L2.CX P w) 5 f fd psR (spRI R C) ∧ Mk K R f ∧ FunD K "__init__" "Rule.__init__" (defArgs sRI) (defBody sRI) (defScope sRI) dR [] f fd
  mgR : mg "Rule" = some (.ref R)
theorem bindsAll {f : Addr} {fd : FuncData} (F : FunD K "__init__" "Rule.__init__" (defArgs sRI) (defBody sRI) (defScope sRI) dR [] f fd) : ∃ ds, Vals ([] : List V) ds ∧ Binds K fd psR ds :=
  F.binds1 5 4 (by simp) rfl (fun T kV doc pm an cdv ct us its l1 l2 => match us, its, l1, l2 with | [_, _, _, _, _], [_, _, _, _], _, _ => ⟨_, rfl, rfl⟩)
theorem made_same {H2 H' : Hp} {x dx R : Addr} (nx : H2 x = none) (nd : H2 dx = none) (fr : ∀ b o, b ≠ x → upd (upd H2 dx (.own x)) x (.ins R dx []) b = some o → H' b = some o) : Same H2 H' := fun b o e => by
  have h1 : b ≠ x := ne_of_none e nx
  have h2 : b ≠ dx := ne_of_none e nd
  refine fr b o h1 ?_
  rw [upd_ne h1, upd_ne h2]
  exact e
theorem made_free {H2 : Hp} {x dx R pw : Addr} (np : upd (upd H2 dx (.own x)) x (.ins R dx []) pw = none) : H2 pw = none := by
  by_cases h1 : pw = x
  · rw [h1, upd_same] at np
    cases np
  · rw [upd_ne h1] at np
    by_cases h2 : pw = dx
    · rw [h2, upd_same] at np
      cases np
    · rw [upd_ne h2] at np
      exact np
/-! _law_rule -/
abbrev sRL : Stmt := topS 69
theorem scRL : FnScope ["_law_r"] ["_law_r"] (defScope sRL) := ⟨rfl, rfl, rfl, by decide +kernel, rfl, by decide +kernel, by decide +kernel⟩
theorem Parts.same {H H1 : Hp} {T t : Addr} {xs : List Str} {lo : Int} {hi wd : Option Int} (h : Parts H T t xs lo hi wd) (s : Same H H1) : Parts H1 T t xs lo hi wd := ⟨s _ _ h.1, s _ _ h.2⟩
def spRL (R : Addr) : Sp := fun vs H Q _ => ∃ (T t : Addr) (xs : List Str) (lo : Int) (hi wd : Option Int), vs = [.ref T] ∧ Parts H T t xs lo hi wd ∧ xs.length ≤ 60 ∧ Short xs ∧ partBad xs lo hi wd = none ∧
  ∀ (r pw : Addr) (ys : List Str) H', Same H H' → H r = none → H pw = none → RuleAt H' R r pw ys lo hi wd → ys.Perm xs → sortedS ys = true → Q (.ref r) H'
theorem ok_rl {f R C : Addr} {fd : FuncData} (F : Fun K "_law_rule" "_law_rule" sRL f fd) (B : BN mg) (M : RMk P w K mg base R C) : FnOk P w K mg base CX0 7 f fd ["_law_r"] (spRL R) := by
  obtain ⟨fI, fdI, GI, MI, FI⟩ := M.ex
  have mR := M.mgR
  obtain ⟨dsA, vA, bA⟩ := bindsAll FI
  refine F.ok scRL (fun vs H Q E h => ?_) (fun cdv A outer s H vs Q E hr h => ?_)
  · obtain ⟨T, t, xs, lo, hi, wd, rfl, _⟩ := h
    rfl
  · obtain ⟨T, t, xs, lo, hi, wd, rfl, ⟨hT, ht⟩, h60, hs, hpb, k⟩ := h
    refine ⟨_, pss_one (ps_ret (pe_make MI GI hr rfl mR bA vA passL (pa_cons (pe_callTy call_list_of (by rfl) B.lst (by decide +kernel) (pa_cons (pe_ix ix_tup (pv 0) pe_int (fun _ _ => rfl)) pa_nil)) (pa_cons (pe_ix ix_tup (pv 0) pe_int (fun _ _ => rfl)) (pa_cons (pe_ix ix_tup (pv 0) pe_int (fun _ _ => rfl)) (pa_cons (pe_ix ix_tup (pv 0) pe_int (fun _ _ => rfl)) pa_nil)))))), ?_⟩
    have hT1 : SqT K H T [.ref t, .int lo, vI hi, vI wd] := .inl (.inl hT)
    refine ⟨.ref T, rfl, T, _, 0, .ref t, rfl, rfl, hT1, rfl, t, _, rfl, .inr (.inl (.inl ht)), fun l nl => ?_⟩
    have s1 : Same H (upd H l (.lst (xs.map V.str))) := same_new nl
    have hT2 := Same.tup s1 hT1
    refine ⟨.ref T, rfl, T, _, 1, .int lo, rfl, rfl, hT2, rfl, .ref T, rfl, T, _, 2, vI hi, rfl, rfl, hT2, rfl, .ref T, rfl, T, _, 3, vI wd, rfl, rfl, hT2, rfl, fun x dx nx nd ne => ?_⟩
    have sI : Same (upd H l (.lst (xs.map V.str))) (upd (upd (upd H l (.lst (xs.map V.str))) dx (.own x)) x (.ins R dx [])) := (same_new nd).trans (same_new (by rw [upd_ne (fun z => ne z.symm)]; exact nx))
    refine ⟨x, dx, .ref l, xs, lo, hi, wd, rfl, upd_same, .inr ⟨l, rfl, sI _ _ upd_same⟩, h60, fun z hz => (hs z hz).1, fun _ ys pw H' hpm hsr npw fr hR => ⟨rfl, ?_⟩, fun s e => ?_⟩
    · exact k x pw ys H' (s1.trans (made_same nx nd fr)) (s1.free nx) (s1.free (made_free npw)) hR hpm hsr
    · rw [hpb] at e
      cases e
end
end K28

set_option Elab.async false
set_option linter.all false
set_option maxRecDepth 100000
set_option maxHeartbeats 4000000
namespace K28
open PySem PySem.Spec PyProof.Rows L2 Pw TL
section
variable {P : Program} {w : World} {K : PySem.W.Frag} {mg : Str → Option Value} {base : Heap}
/-! _law_lawful -/
abbrev sLA : Stmt := topS 60
abbrev nLA : List Str := ["_law_r", "_law_row_here", "_law_parts_here", "_law_sums_here", "_law_word_here", "_law_part"]
theorem scLA : FnScope nLA ["_law_r", "_law_row_here"] (defScope sLA) := ⟨rfl, rfl, rfl, by decide +kernel, rfl, by decide +kernel, by decide +kernel⟩
def spLA : Sp := fun vs H Q _ => ∃ (T t : Addr) (xs : List Str) (lo : Int) (hi wd : Option Int) (x : Str), vs = [.ref T, .str x] ∧ Parts H T t xs lo hi wd ∧ (∀ y ∈ xs, tl y ≠ []) ∧ xs.length ≤ 60 ∧ Pw.Pure (tl x) ∧ (tl x).length ≤ 20000 ∧
  ∀ H', Same H H' → Q (.bl (lawB xs lo hi wd (tl x))) H'
theorem cut_in (xs : List V) : cutV xs (some 1) (some (-1)) = (xs.drop 1).dropLast := by
  unfold cutV
  have e1 : HT.sIx xs.length 0 (some 1) = min 1 xs.length := HT.sIx_nat xs.length 0 1
  have e2 : HT.sIx xs.length xs.length (some (-1)) = xs.length - 1 := by
    show (if (-1 : Int) < 0 then ((-1 : Int) + (xs.length : Int)).toNat else min (-1 : Int).toNat xs.length) = _
    rw [if_pos (by decide)]
    omega
  rw [e1, e2]
  cases xs with
  | nil => rfl
  | cons a r =>
    rw [show min 1 (a :: r).length = 1 by rw [List.length_cons]; omega, List.dropLast_eq_take]
    show List.take ((a :: r).length - 1 - 1) r = List.take (r.length - 1) r
    rw [List.length_cons]
    rfl
theorem hi_max {l : List Nat} {h m : Int} (h1 : m ∈ (runL 0 l).map fun (n : Nat) => (n : Int)) (h2 : ∀ y ∈ (runL 0 l).map (fun (n : Nat) => (n : Int)), y ≤ m) : hiB l (some h) = !decide (h < m) := by
  show (runL 0 l).all (fun n => decide ((n : Int) ≤ h)) = _
  by_cases c : h < m
  · rw [decide_eq_true c]
    refine all_false.mpr ?_
    obtain ⟨n, h3, h4⟩ := List.mem_map.mp h1
    exact ⟨n, h3, decide_eq_false (by omega)⟩
  · rw [decide_eq_false c]
    refine List.all_eq_true.mpr fun n hn => decide_eq_true ?_
    have := h2 n (List.mem_map.mpr ⟨n, hn, rfl⟩)
    omega
theorem any_low {l : List Nat} {lo : Int} : (l.all fun n => decide (lo ≤ (n : Int))) = !(l.any fun n => decide ((n : Int) < lo)) := by
  induction l with
  | nil => rfl
  | cons a r ih =>
    rw [List.all_cons, List.any_cons, ih]
    by_cases c : (a : Int) < lo
    · rw [decide_eq_true c, decide_eq_false (by omega)]
      rfl
    · rw [decide_eq_false c, decide_eq_true (by omega)]
      rfl
theorem ok_la {f fS : Addr} {fd fdS : FuncData} (F : Fun K "_law_lawful" "_law_lawful" sLA f fd) (B : BN mg) (ma : mg "any" = none) (GS : FnOk P w K mg base CX0 1 fS fdS ["_law_row_here"] spSU) (sm : mg "_law_sums" = some (.ref fS)) (sk : PySem.W.keepIn K (.ref fS) = true) (sb : Binds K fdS ["_law_row_here"] []) :
    FnOk P w K mg base CX0 2 f fd ["_law_r", "_law_row_here"] spLA := by
  refine F.ok scLA (fun vs H Q E h => ?_) (fun cdv A outer s H vs Q E hr h => ?_)
  · obtain ⟨T, t, xs, lo, hi, wd, x, rfl, _⟩ := h
    rfl
  · obtain ⟨T, t, xs, lo, hi, wd, x, rfl, hP, hx, h60, hp, hl, q⟩ := h
    refine ⟨_, pss_cons (ps_if (pt_val (pe_callB (cr_any rfl) (by rfl) ma (by decide +kernel) (pa_cons (pe_lc (own := [("_law_word_here", 4)]) (g := gName 4) (tt := tYes) rfl scLA.nd (pi_tup (pe_ix ix_tup (pv 0) pe_int (fun _ _ => rfl)))
          (blkOk_by (N := nLA) (sc := defScope sLA) (by decide +kernel)) (fun _ _ _ _ _ => pg_name (i := 4) scLA.nd rfl (Or.inl rfl)) (fun _ _ _ _ _ => pts_nil) (fun _ _ _ _ _ => pe_cmpR op_in_str (pv 4) (pv 1) (by rfl))) pa_nil))) (pss_one (ps_ret pe_bl)) pss_nil)
      (pss_cons (ps_set (i := 2) scLA.nd rfl (.inl rfl) (pe_split (pv 1) pe_str))
      (C8.pss_cut (ps_if (PW.pt (pw_and (pt_cmpR op_notN (pe_ix ix_tup (pv 0) pe_int (fun _ _ => rfl)) pe_non (nomark _)) (pw_and1 (pt_cmpR op_gt (pe_callB (cr_max rfl) (by rfl) B.max (by decide +kernel) (pa_cons (pe_lc (own := [("_law_part", 5)]) (g := gName 5) (tt := tYes) rfl scLA.nd (pi_list (pv 2))
          (blkOk_by (N := nLA) (sc := defScope sLA) (by decide +kernel)) (fun _ _ _ _ _ => pg_name (i := 5) scLA.nd rfl (Or.inl rfl)) (fun _ _ _ _ _ => pts_nil) (fun _ _ _ _ _ => pe_callB call_len_str (by rfl) B.len PySem.boot_len (pa_cons (pv 5) pa_nil))) pa_nil))
          (pe_ix ix_tup (pv 0) pe_int (fun _ _ => rfl)) (nomark _))))) (pss_one (ps_ret pe_bl)) pss_nil)
      (pss_cons (ps_if (pt_val (pe_callB (cr_any rfl) (by rfl) ma (by decide +kernel) (pa_cons (pe_lc (own := [("_law_part", 5)]) (g := gName 5) (tt := tYes) rfl scLA.nd (pi_list (pe_slice sl_list (pv 2) (po_some pe_int) (po_some (pe_un un_neg pe_int))))
          (blkOk_by (N := nLA) (sc := defScope sLA) (by decide +kernel)) (fun _ _ _ _ _ => pg_name (i := 5) scLA.nd rfl (Or.inl rfl)) (fun _ _ _ _ _ => pts_nil) (fun _ _ _ _ _ => pe_cmpR op_lt (pe_callB call_len_str (by rfl) B.len PySem.boot_len (pa_cons (pv 5) pa_nil)) (pe_ix (r := rIxT K) ix_tup (pv 0) pe_int (fun _ _ => rfl)) (nomark _))) pa_nil))) (pss_one (ps_ret pe_bl)) pss_nil)
      (pss_cons (ps_set (i := 3) scLA.nd rfl (.inl rfl) (pe_call GS hr rfl sm sk sb .nil pass0 (pa_cons (pv 1) pa_nil)))
      (pss_one (ps_ret (pe_or (pe_cmpR op_isN (pe_ix ix_tup (pv 0) pe_int (fun _ _ => rfl)) pe_non (nomark _)) (pe_one (pe_cmpR op_le (pe_op op_sub (pe_callB (cr_max rfl) (by rfl) B.max (by decide +kernel) (pa_cons (pv 3) pa_nil)) (pe_callB (cr_min rfl) (by rfl) B.min (by decide +kernel) (pa_cons (pv 3) pa_nil))) (pe_ix ix_tup (pv 0) pe_int (fun _ _ => rfl)) (nomark _)))))))))), ?_⟩
    have q' : ∀ (b : Bool) (H' : Hp), Same H H' → lawB xs lo hi wd (tl x) = b → Q (.bl b) H' := fun b H' s e => e ▸ q H' s
    clear q
    have sqT : SqT K H T [.ref t, .int lo, vI hi, vI wd] := .inl (.inl hP.1)
    have sqt : SqT K H t (xs.map V.str) := .inl (.inl hP.2)
    refine ⟨.ref T, rfl, T, _, 0, .ref t, rfl, rfl, sqT, rfl, t, rfl, ⟨_, sqt⟩, fun D nD => ?_⟩
    refine lc_tup (K := K) (a := t) (xs := xs.map V.str) (fun i H2 => Same H H2 ∧ H2 D = some (.lst (((xs.map fun y => (fEnd (tl x) (tl y)).isSome).take i).map V.bl)))
      ⟨same_new nD, upd_same⟩ (fun i H2 _ h => Same.tup h.1 sqt) (fun i v H2 hv h => ?_) (fun H2 h => ?_)
    · obtain ⟨s2, h3⟩ := h
      rw [List.getElem?_map] at hv
      cases hz : xs[i]? with
      | none =>
        rw [hz] at hv
        cases hv
      | some z =>
        rw [hz] at hv
        obtain rfl : V.str z = v := Option.some.inj hv
        have hg : (xs.map fun y => (fEnd (tl x) (tl y)).isSome)[i]? = some ((fEnd (tl x) (tl z)).isSome) := by
          rw [List.getElem?_map, hz]
          rfl
        refine ⟨rfl, _, rfl, _, rfl, z, x, rfl, rfl, _, h3, ?_, same_put s2 nD, ?_⟩
        · rw [List.length_map, List.length_take, List.length_map]
          exact Nat.lt_of_le_of_lt (Nat.min_le_right _ _) (smallB (by omega))
        · rw [upd_same, List.take_add_one, hg, List.map_append, in_has (hx z (List.mem_of_getElem? hz))]
          rfl
    obtain ⟨s2, h3⟩ := h
    rw [List.length_map, ← List.length_map (f := fun y : Str => (fEnd (tl x) (tl y)).isSome), List.take_length] at h3
    have ea : (xs.map fun y => (fEnd (tl x) (tl y)).isSome).any id = xs.any fun y => (fEnd (tl x) (tl y)).isSome := by
      rw [List.any_map]
      rfl
    refine ⟨D, _, rfl, SqL.of h3, _, rfl, ?_⟩
    rw [ea]
    cases c1 : xs.any fun y => (fEnd (tl x) (tl y)).isSome with
    | true =>
      refine iteT (q' false H2 s2 ?_)
      unfold lawB
      rw [c1]
      rfl
    | false =>
      refine iteF ?_
      have el : ((Txt.split x "1").map (fun z => z.length)) = runL 0 (tl x) := split_len rfl
      have hzl : ∀ z ∈ Txt.split x "1", z.length ≤ sizeLine := fun z hz => by
        have : z.length ∈ runL 0 (tl x) := by
          rw [← el]
          exact List.mem_map.mpr ⟨z, hz, rfl⟩
        exact Nat.le_trans (runL_le _ _ _ this) (Nat.le_trans (by omega : 0 + (tl x).length ≤ 20000) (by decide))
      have hsl : (Txt.split x "1").length ≤ 20001 := by
        have e2 := congrArg List.length el
        rw [List.length_map] at e2
        have := runL_len (tl x) 0
        omega
      refine ⟨_, rfl, ⟨_, rfl⟩, x, _, rfl, rfl, rfl, ?_, fun p1 n1 => ?_⟩
      · rw [len_tl]
        exact Nat.le_trans (Nat.add_le_add_right hl 2) (by decide)
      have s3 := s2.trans (same_new (o := .lst ((Txt.split x "1").map V.str)) n1)
      refine ⟨fun σ H3 => σ = [some (.ref T), some (.str x), some (.ref p1), none, none, none] ∧ Same H H3 ∧ H3 p1 = some (.lst ((Txt.split x "1").map V.str)) ∧ hiB (tl x) hi = true, ?_, ?_⟩
      · have sqT3 := Same.tup s3 sqT
        cases hi with
        | none => exact ⟨.ref T, rfl, T, _, 2, .non, rfl, rfl, sqT3, rfl, rfl, _, rfl, iteF (iteF ⟨rfl, s3, upd_same, rfl⟩)⟩
        | some h =>
          refine ⟨.ref T, rfl, T, _, 2, .int h, rfl, rfl, sqT3, rfl, rfl, _, rfl, iteT ⟨_, rfl, p1, rfl, ⟨_, SqL.of upd_same⟩, fun D4 nD4 => ?_⟩⟩
          refine lc_list (K := K) (a := p1) (xs := (Txt.split x "1").map V.str) (fun i H4 => Same (upd H2 p1 (.lst ((Txt.split x "1").map V.str))) H4 ∧ H4 D4 = some (.lst ((((Txt.split x "1").map fun z : Str => (z.length : Int)).take i).map V.int)))
            ⟨same_new nD4, upd_same⟩ (fun i H4 _ h => SqL.of (h.1 _ _ upd_same)) (fun i v H4 hv h => ?_) (fun H4 h => ?_)
          · obtain ⟨s4, h4⟩ := h
            rw [List.getElem?_map] at hv
            cases hz : (Txt.split x "1")[i]? with
            | none =>
              rw [hz] at hv
              cases hv
            | some z =>
              rw [hz] at hv
              obtain rfl : V.str z = v := Option.some.inj hv
              have hg : ((Txt.split x "1").map fun z : Str => (z.length : Int))[i]? = some (z.length : Int) := by
                rw [List.getElem?_map, hz]
                rfl
              refine ⟨rfl, _, rfl, z, rfl, hzl z (List.mem_of_getElem? hz), _, h4, ?_, same_put s4 nD4, ?_⟩
              · rw [List.length_map, List.length_take, List.length_map]
                exact Nat.lt_of_le_of_lt (Nat.le_trans (Nat.min_le_right _ _) hsl) (by decide)
              · rw [upd_same, List.take_add_one, hg, List.map_append]
                rfl
          · obtain ⟨s4, h4⟩ := h
            rw [List.length_map, ← List.length_map (f := fun z : Str => (z.length : Int)), List.take_length] at h4
            have em : (Txt.split x "1").map (fun z : Str => (z.length : Int)) = (runL 0 (tl x)).map fun (n : Nat) => (n : Int) := by
              rw [← el, List.map_map]
              rfl
            rw [em] at h4
            have s5 := s3.trans s4
            refine ⟨D4, _, rfl, SqL.of h4, ?_, fun m hm hmax => ⟨.ref T, rfl, T, _, 2, .int h, rfl, rfl, Same.tup s5 sqT, rfl, _, _, rfl, rfl, _, rfl, ?_⟩⟩
            · rw [List.length_map]
              exact List.length_pos_iff.mpr (runL_ne _ _)
            have eH := hi_max (h := h) hm hmax
            by_cases c : h < m
            · rw [decide_eq_true c]
              refine iteT (q' false H4 s5 ?_)
              rw [decide_eq_true c] at eH
              unfold lawB
              rw [eH, c1]
              rfl
            · rw [decide_eq_false c]
              rw [decide_eq_false c] at eH
              exact iteF ⟨rfl, s5, s4 _ _ upd_same, eH⟩
      · rintro _ H3 ⟨rfl, s3, h3, c2⟩
        have hgl : ∀ z ∈ ((Txt.split x "1").drop 1).dropLast, z ∈ Txt.split x "1" := fun z hz => List.mem_of_mem_drop ((List.dropLast_sublist _).subset hz)
        have ec : cutV ((Txt.split x "1").map V.str) (some 1) (some (-1)) = (((Txt.split x "1").drop 1).dropLast).map V.str := by rw [cut_in, ← List.map_drop, ← List.map_dropLast]
        refine ⟨_, rfl, 1, rfl, 1, rfl, -1, rfl, p1, _, rfl, SqL.of h3, fun p2 n2 => ?_⟩
        rw [ec]
        have s4 := s3.trans (same_new (o := .lst ((((Txt.split x "1").drop 1).dropLast).map V.str)) n2)
        refine ⟨p2, rfl, ⟨_, SqL.of upd_same⟩, fun D5 nD5 => ?_⟩
        refine lc_list (K := K) (a := p2) (xs := (((Txt.split x "1").drop 1).dropLast).map V.str) (fun i H4 => Same (upd H3 p2 (.lst ((((Txt.split x "1").drop 1).dropLast).map V.str))) H4 ∧ H4 D5 = some (.lst ((((((Txt.split x "1").drop 1).dropLast).map fun z : Str => decide ((z.length : Int) < lo)).take i).map V.bl)))
          ⟨same_new nD5, upd_same⟩ (fun i H4 _ h => SqL.of (h.1 _ _ upd_same)) (fun i v H4 hv h => ?_) (fun H4 h => ?_)
        · obtain ⟨s5, h5⟩ := h
          rw [List.getElem?_map] at hv
          cases hz : (((Txt.split x "1").drop 1).dropLast)[i]? with
          | none =>
            rw [hz] at hv
            cases hv
          | some z =>
            rw [hz] at hv
            obtain rfl : V.str z = v := Option.some.inj hv
            have hg : ((((Txt.split x "1").drop 1).dropLast).map fun z : Str => decide ((z.length : Int) < lo))[i]? = some (decide ((z.length : Int) < lo)) := by
              rw [List.getElem?_map, hz]
              rfl
            have hlen : (((Txt.split x "1").drop 1).dropLast).length ≤ 20001 := by
              rw [List.length_dropLast, List.length_drop]
              omega
            refine ⟨rfl, _, rfl, z, rfl, hzl z (hgl z (List.mem_of_getElem? hz)), .ref T, rfl, T, _, 1, .int lo, rfl, rfl, Same.tup (s4.trans s5) sqT, rfl, _, _, rfl, rfl, _, h5, ?_, same_put s5 nD5, ?_⟩
            · rw [List.length_map, List.length_take, List.length_map]
              exact Nat.lt_of_le_of_lt (Nat.le_trans (Nat.min_le_right _ _) hlen) (by decide)
            · rw [upd_same, List.take_add_one, hg, List.map_append]
              rfl
        · obtain ⟨s5, h5⟩ := h
          rw [List.length_map, ← List.length_map (f := fun z : Str => decide ((z.length : Int) < lo)), List.take_length] at h5
          have eb : ((((Txt.split x "1").drop 1).dropLast).map fun z : Str => decide ((z.length : Int) < lo)).any id = ((runL 0 (tl x)).drop 1).dropLast.any fun n => decide ((n : Int) < lo) := by
            rw [← el, ← List.map_drop, ← List.map_dropLast, List.any_map, List.any_map]
            rfl
          have s6 := s4.trans s5
          refine ⟨D5, _, rfl, SqL.of h5, _, rfl, ?_⟩
          rw [eb]
          have e3 := any_low (l := ((runL 0 (tl x)).drop 1).dropLast) (lo := lo)
          cases c3 : ((runL 0 (tl x)).drop 1).dropLast.any fun n => decide ((n : Int) < lo) with
          | true =>
            refine iteT (q' false H4 s6 ?_)
            rw [c3] at e3
            unfold lawB
            rw [c1, c2, e3]
            rfl
          | false =>
            rw [c3] at e3
            refine iteF ⟨_, rfl, x, rfl, hl, hp, fun H5 pS s7 npS hS => ?_⟩
            have s8 := s6.trans s7
            have sq8 := Same.tup s8 sqT
            have eq4 : lawB xs lo hi wd (tl x) = wdB (tl x) wd := by
              unfold lawB
              rw [c1, c2, e3]
              rfl
            have hpos : 0 < (sums (tl x)).length := by
              rw [sums_len]
              omega
            cases wd with
            | none => exact ⟨.ref T, rfl, T, _, 3, .non, rfl, rfl, sq8, rfl, rfl, _, rfl, iteT (q' true H5 s8 eq4)⟩
            | some k =>
              refine ⟨.ref T, rfl, T, _, 3, .int k, rfl, rfl, sq8, rfl, rfl, _, rfl, iteF ⟨_, rfl, pS, _, rfl, SqL.of hS, hpos, fun m hm hmax => ⟨_, rfl, pS, _, rfl, SqL.of hS, hpos, fun m2 hm2 hmin => ?_⟩⟩⟩
              obtain ⟨a1, b1, b2⟩ := hiS_top (tl x)
              have e1 : m = (hiS (tl x)).2.1 := IsMax.eq ⟨hm, hmax⟩ a1
              have e2 : m2 = (hiS (tl x)).2.2 := Int.le_antisymm (hmin _ b1) (b2 _ hm2)
              refine ⟨_, _, rfl, rfl, .ref T, rfl, T, _, 3, .int k, rfl, rfl, sq8, rfl, _, _, rfl, rfl, q' _ H5 s8 ?_⟩
              rw [eq4, e1, e2]
              rfl
end
end K28

set_option Elab.async false
set_option linter.all false
set_option maxRecDepth 100000
set_option maxHeartbeats 4000000
namespace K28
open PySem PySem.Spec PyProof.Rows L2 Pw TL
section
variable {P : Program} {w : World} {K : PySem.W.Frag} {mg : Str → Option Value} {base : Heap}
/-- the bounds that every rule keeps -/
structure Bnd (lo : Int) (hi : Option Int) : Prop where
  l0 : 0 ≤ lo
  l3 : lo ≤ 3
  h0 : ∀ h, hi = some h → 0 ≤ h
  h7 : ∀ h, hi = some h → h ≤ 7
def longP : Option Int → List (List Nat)
  | none => []
  | some h => [zerosL (h + 1).toNat]
theorem piecesL_eq (xs : List Str) (lo : Int) (hi : Option Int) : piecesL xs lo hi = xs.map tl ++ (List.range lo.toNat).map gapW ++ longP hi := by cases hi <;> rfl
/-! Rule.barred_pieces -/
abbrev sBP : Stmt := inClass (topS 52) 5
theorem scBP : FnScope ["self", "short_gaps", "long_idles", "many"] ["self"] (defScope sBP) := ⟨rfl, rfl, rfl, by decide +kernel, rfl, by decide +kernel, by decide +kernel⟩
def spBP (R : Addr) : Sp := fun vs H Q _ => ∃ (r p : Addr) (ys : List Str) (lo : Int) (hi sp : Option Int), vs = [.ref r] ∧ RuleAt H R r p ys lo hi sp ∧ Bnd lo hi ∧ ys.length ≤ 60 ∧
  ∀ (l : Addr) (zs : List Str) (H' : Hp), Same H H' → H l = none → H' l = some (.lst (zs.map V.str)) → zs.map tl = piecesL ys lo hi → Q (.ref l) H'
def gapS (m : Nat) : Str := (Str.ofString "1" ++ Txt.mul (Str.ofString "0") (m : Int)) ++ Str.ofString "1"
theorem tl_gapS (m : Nat) : tl (gapS m) = gapW m := by
  unfold gapS
  rw [tl_append, tl_append, show Txt.mul (Str.ofString "0") (m : Int) = Txt.mul ⟨#[48]⟩ (m : Int) from rfl, tl_mul]
  rfl
theorem len_gap0 (m : Nat) : (Txt.mul (Str.ofString "0") (m : Int)).length = m := by
  rw [len_tl, show Txt.mul (Str.ofString "0") (m : Int) = Txt.mul ⟨#[48]⟩ (m : Int) from rfl, tl_mul, List.length_replicate]
theorem ok_bp {f R : Addr} {fd : FuncData} {k : Nat} (F : Fun K "barred_pieces" "Rule.barred_pieces" sBP f fd) (T : RuleC K R) (mr : mg "range" = none) : FnOk P w K mg base CX0 (k + 1) f fd ["self"] (spBP R) := by
  refine F.ok scBP (fun vs H Q E h => ?_) (fun cdv A outer s H vs Q E hr h => ?_)
  · obtain ⟨r, p, ys, lo, hi, sp, rfl, _⟩ := h
    rfl
  · obtain ⟨r, p, ys, lo, hi, sp, rfl, hR, hB, h60, q⟩ := h
    refine ⟨_, pss_cons (ps_setLc (i := 1) (own := [("many", 3)]) (g := gName 3) rfl scBP.nd rfl rfl (sw_true rfl rfl rfl (by decide +kernel)) (pi_range1 rfl mr (pa_cons (pe_fld (pv 0) rfl) pa_nil))
        (blkOk_by (N := ["self", "short_gaps", "long_idles", "many"]) (sc := defScope sBP) (by decide +kernel)) (fun _ _ _ _ _ => pg_name (i := 3) scBP.nd rfl (Or.inl rfl)) (fun _ _ _ _ _ => pts_nil)
        (fun _ _ _ _ _ => pe_op op_add_str (pe_op op_add_str pe_str (pe_op op_mulS pe_str (pv 3))) pe_str))
      (C8.pss_cut (ps_set (i := 2) scBP.nd rfl (.inl rfl) (pe_ifExp (pt_cmpR op_isN (pe_fld (pv 0) rfl) pe_non (nomark _)) (pe_lst pa_nil) (pe_lst (pa_cons (pe_op op_mulS pe_str (pe_op op_add (pe_fld (pv 0) rfl) pe_int)) pa_nil))))
      (pss_one (ps_ret (pe_op op_cat (pe_op op_cat (pe_fld (pv 0) rfl) (pv 1)) (pv 2))))), ?_⟩
    obtain ⟨dx, h1, h2⟩ := id hR
    have l0 := hB.l0
    have l3 := hB.l3
    have elo : lo = ((lo.toNat : Nat) : Int) := by omega
    refine ⟨_, rfl, r, R, dx, _, .int lo, rfl, h1, T.c, T.n2, rfl, lo, rfl, by omega, by omega, fun D nD => ?_⟩
    refine lc_range (lo := 0) (n := lo.toNat) (fun i H2 => Same H H2 ∧ H2 D = some (.lst (((List.range i).map gapS).map V.str))) ⟨same_new nD, upd_same⟩ (fun i H2 hi2 h => ?_) (fun H2 h => ?_)
    · obtain ⟨s2, h3⟩ := h
      have e0 : (0 + (i : Int)) = ((i : Nat) : Int) := Int.zero_add _
      refine ⟨rfl, _, rfl, Str.ofString "0", i, rfl, by rw [e0], by decide, by omega, ?_⟩
      refine ⟨_, _, rfl, rfl, ?_, _, _, rfl, rfl, ?_, _, h3, ?_, same_put s2 nD, ?_⟩
      · rw [len_gap0]
        exact Nat.le_trans (Nat.add_le_add (by decide : _ ≤ 1) (by omega : i ≤ 10)) (by decide)
      · rw [len_tl, tl_append, List.length_append, ← len_tl, ← len_tl, len_gap0]
        exact Nat.le_trans (Nat.add_le_add_right (Nat.add_le_add (by decide : _ ≤ 1) (by omega : i ≤ 10)) 1) (by decide)
      · rw [List.length_map, List.length_map, List.length_range]
        exact small1000 (by omega)
      · rw [upd_same, List.range_succ, List.map_append, List.map_append]
        rfl
    · obtain ⟨s2, h3⟩ := h
      refine ⟨fun σ H3 => ∃ (l2 : Addr) (zs : List Str), σ = [some (.ref r), some (.ref D), some (.ref l2), none] ∧ Same H2 H3 ∧ H3 l2 = some (.lst (zs.map V.str)) ∧ zs.length ≤ 1 ∧ zs.map tl = longP hi, ?_, ?_⟩
      · cases hi with
        | none =>
          refine ⟨_, rfl, r, R, dx, _, .non, rfl, s2 _ _ h1, T.c, T.n3, rfl, rfl, _, rfl, iteT ⟨by show 0 ≤ sizeLine; decide, fun l2 n2 => ?_⟩⟩
          exact ⟨l2, [], rfl, same_new n2, upd_same, Nat.zero_le _, rfl⟩
        | some h =>
          have g0 := hB.h0 h rfl
          have g7 := hB.h7 h rfl
          have eh : h + 1 = (((h + 1).toNat : Nat) : Int) := by omega
          refine ⟨_, rfl, r, R, dx, _, .int h, rfl, s2 _ _ h1, T.c, T.n3, rfl, rfl, _, rfl, iteF ?_⟩
          refine ⟨_, rfl, r, R, dx, _, .int h, rfl, s2 _ _ h1, T.c, T.n3, rfl, h, 1, rfl, rfl, Str.ofString "0", (h + 1).toNat, rfl, by rw [← eh], by decide, by omega, by show 1 ≤ sizeLine; decide, fun l2 n2 => ?_⟩
          refine ⟨l2, [Txt.mul (Str.ofString "0") (((h + 1).toNat : Nat) : Int)], rfl, same_new n2, upd_same, Nat.le_refl _, ?_⟩
          show [tl (Txt.mul ⟨#[48]⟩ (((h + 1).toNat : Nat) : Int))] = _
          rw [tl_mul]
          rfl
      · rintro _ H3 ⟨l2, zs, rfl, s3, h4, z1, ez⟩
        have s23 := s2.trans s3
        refine ⟨_, rfl, r, R, dx, _, .ref p, rfl, s23 _ _ h1, T.c, T.n1, rfl, _, rfl, p, D, _, _, rfl, rfl, s23 _ _ h2, s3 _ _ h3, ?_, fun l5 n5 => ?_⟩
        · rw [List.length_map, List.length_map, List.length_map, List.length_range]
          exact Nat.le_trans (by omega : _ ≤ 100) (by decide)
        have s5 := s3.trans (same_new (o := .lst (ys.map V.str ++ ((List.range lo.toNat).map gapS).map V.str)) n5)
        refine ⟨_, rfl, l5, l2, _, _, rfl, rfl, upd_same, same_new n5 _ _ h4, ?_, fun l6 n6 => ?_⟩
        · rw [List.length_append, List.length_map, List.length_map, List.length_map, List.length_map, List.length_range]
          exact Nat.le_trans (by omega : _ ≤ 100) (by decide)
        have s6 := s5.trans (same_new (o := .lst ((ys.map V.str ++ ((List.range lo.toNat).map gapS).map V.str) ++ zs.map V.str)) n6)
        refine q l6 (ys ++ (List.range lo.toNat).map gapS ++ zs) _ (s2.trans s6) ((s2.trans s5).free n6) ?_ ?_
        · rw [upd_same, List.map_append, List.map_append]
        · rw [piecesL_eq, List.map_append, List.map_append, ez, List.map_map]
          congr 2
          refine List.map_congr_left fun m _ => ?_
          exact tl_gapS m
end
end K28

set_option Elab.async false
set_option linter.all false
set_option maxRecDepth 100000
set_option maxHeartbeats 4000000
namespace K28
open PySem PySem.Spec PyProof.Rows L2 Pw TL
section
variable {P : Program} {w : World} {K : PySem.W.Frag} {mg : Str → Option Value} {base : Heap}
theorem room1 {k : Nat} {A : Around} (r : Room k A) : A.units + 1 < cLine := by
  have := r.un
  omega
theorem tl_eq {x y : Str} (h : tl x = tl y) : x = y := by
  obtain ⟨⟨a⟩⟩ := x
  obtain ⟨⟨b⟩⟩ := y
  have h : a = b := h
  rw [h]
theorem tl_to (x : Str) (k : Nat) (h : k ≤ (tl x).length) : tl (cutS x none (some (k : Int))) = (tl x).take k := by
  unfold cutS
  rw [tl_mk, show HT.sIx x.length x.length (some (k : Int)) = min k x.length from HT.sIx_nat _ _ k]
  show List.take (min k x.length - 0) (List.drop 0 (tl x)) = _
  rw [Nat.sub_zero, List.drop_zero, len_tl, Nat.min_eq_left h]
theorem tl_from (x : Str) (k : Nat) (h : k ≤ (tl x).length) : tl (cutS x (some (k : Int)) none) = (tl x).drop k := by
  unfold cutS
  rw [tl_mk, show HT.sIx x.length 0 (some (k : Int)) = min k x.length from HT.sIx_nat _ _ k]
  show List.take (x.length - min k x.length) (List.drop (min k x.length) (tl x)) = _
  rw [len_tl, Nat.min_eq_left h]
  exact List.take_of_length_le (by rw [List.length_drop]; exact Nat.le_refl _)
/-! beginnings -/
abbrev sBG : Stmt := topS 26
abbrev nBG : List Str := ["pieces", "begun", "piece", "signs"]
theorem scBG : FnScope nBG ["pieces"] (defScope sBG) := ⟨rfl, rfl, rfl, by decide +kernel, rfl, by decide +kernel, by decide +kernel⟩
/-- what a dict of beginnings holds -/
def Begun (kvs : List (Key × V)) (S : Str → Prop) : Prop := ∀ x : Str, (valV kvs (.inr x)).isSome = true ↔ S x
def begS (zs : List Str) (x : Str) : Prop := tl x = [] ∨ ∃ p ∈ zs, tl x <+: tl p ∧ (tl x).length < (tl p).length
def begN (zs : List Str) (i : Nat) (j : Nat) (x : Str) : Prop := begS (zs.take i) x ∨ ∃ p, zs[i]? = some p ∧ tl x <+: tl p ∧ (tl x).length < (tl p).length ∧ (tl x).length < j
structure Pcs (zs : List Str) : Prop where
  few : zs.length ≤ 20
  short : ∀ z ∈ zs, (tl z).length ≤ 10
def spBG : Sp := fun vs H Q _ => ∃ (l : Addr) (zs : List Str), vs = [.ref l] ∧ H l = some (.lst (zs.map V.str)) ∧ Pcs zs ∧ ∀ (p : Addr) (kvs : List (Key × V)) H', Same H H' → H p = none → H' p = some (.dK kvs) → Begun kvs (begS zs) → kvs.length ≤ 201 → Q (.ref p) H'
theorem begun_put {kvs : List (Key × V)} {S S' : Str → Prop} {x : Str} {v : V} (h : Begun kvs S) (e : ∀ y, S' y ↔ S y ∨ tl y = tl x) : Begun (putK kvs (.inr x) v) S' := fun y => by
  rw [valV_put, e]
  by_cases c : (Sum.inr y : Key) = .inr x
  · rw [if_pos c]
    have c : y = x := Sum.inr.inj c
    exact ⟨fun _ => .inr (by rw [c]), fun _ => rfl⟩
  · rw [if_neg c, h y]
    exact ⟨.inl, fun z => z.elim id (fun z => absurd (by rw [tl_eq z]) c)⟩
theorem ok_bg {f : Addr} {fd : FuncData} {k : Nat} (F : Fun K "beginnings" "beginnings" sBG f fd) (mr : mg "range" = none) (ml : mg "len" = none) : FnOk P w K mg base CX0 (k + 1) f fd ["pieces"] spBG := by
  refine F.ok scBG (fun vs H Q E h => ?_) (fun cdv A outer s H vs Q E hr h => ?_)
  · obtain ⟨l, zs, rfl, _⟩ := h
    rfl
  · obtain ⟨l, zs, rfl, hl, hz, q⟩ := h
    refine ⟨_, pss_cons (ps_set (i := 1) scBG.nd rfl (.inl rfl) (pe_disp (pps_cons pe_str pe_bl pps_nil) rfl rfl (by simp) (by decide)))
      (pss_cons (ps_for PassesOwn.never rfl (pi_list (pv 0)) (pg_name (i := 2) scBG.nd rfl (.inl rfl))
        (pss_one (ps_for PassesOwn.never rfl (pi_range1 rfl mr (pa_cons (pe_callB call_len_str (by rfl) ml PySem.boot_len (pa_cons (pv 2) pa_nil)) pa_nil)) (pg_name (i := 3) scBG.nd rfl (.inl rfl))
          (pss_one (ps_dput (room1 hr) (pv 1) (pe_slice sl_str (pv 2) po_none (po_some (pv 3))) pe_bl rfl)))))
      (pss_one (ps_ret (pv 1)))), ?_⟩
    intro p np
    refine ⟨upd_same, [(Sum.inr (Str.ofString ""), .bl true)], rfl, by decide, ?_⟩
    have h0 : Begun (mergeK [] [((Sum.inr (Str.ofString "") : Key), V.bl true)]) (begN zs 0 0) := fun x => by
      show (valV (putK ([] : List (Key × V)) (Sum.inr (Str.ofString "")) (.bl true)) (Sum.inr x)).isSome = true ↔ _
      rw [valV_put]
      by_cases c : (Sum.inr x : Key) = .inr (Str.ofString "")
      · rw [if_pos c]
        have c : x = Str.ofString "" := Sum.inr.inj c
        exact ⟨fun _ => .inl (.inl (by rw [c]; rfl)), fun _ => rfl⟩
      · rw [if_neg c]
        refine ⟨(fun z => nomatch z), fun z => ?_⟩
        exfalso
        rcases z with (z | ⟨p, hp, _⟩) | ⟨p, _, _, _, z⟩
        · have e : x = Str.ofString "" := tl_eq (by rw [z]; rfl)
          exact c (by rw [e])
        · rw [List.take_zero] at hp
          cases hp
        · omega
    have sm0 : Same H (upd (upd H p (.dK [])) p (.dK (mergeK [] [((Sum.inr (Str.ofString "") : Key), V.bl true)]))) := same_put (same_new np) np
    refine ⟨_, rfl, l, rfl, ⟨_, SqL.of (sm0 _ _ hl)⟩, for_list (K := K) (a := l) (xs := zs.map V.str) (fun i σ H1 => (∃ y z, σ = [some (.ref l), some (.ref p), y, z]) ∧ Same H H1 ∧ ∃ kvs, H1 p = some (.dK kvs) ∧ kvs.length ≤ 1 + 10 * i ∧ Begun kvs (begN zs i 0)) ⟨⟨none, none, rfl⟩, sm0, _, upd_same, by decide, h0⟩ ?_ ?_ ?_⟩
    · rintro i σ H1 _ ⟨_, sm, _⟩
      exact SqL.of (sm _ _ hl)
    · rintro i x σ H1 hx ⟨⟨y, z, rfl⟩, sm, kvs, h1, hk, hb⟩
      rw [List.getElem?_map] at hx
      cases ez : zs[i]? with
      | none =>
        rw [ez] at hx
        cases hx
      | some zz =>
        rw [ez] at hx
        obtain rfl : V.str zz = x := Option.some.inj hx
        have hzz := hz.short zz (List.mem_of_getElem? ez)
        have hi : i < zs.length := (List.getElem?_eq_some_iff.mp ez).1
        have few := hz.few
        have lz : zz.length = (tl zz).length := len_tl zz
        refine ⟨_, rfl, zz, rfl, ?_, _, rfl, ?_, ?_, ?_⟩
        · rw [lz]
          exact Nat.le_trans hzz (by decide)
        · omega
        · omega
        rw [show ((zz.length : Nat) : Int).toNat = (tl zz).length by omega]
        refine for_range (lo := 0) (n := (tl zz).length) (fun j σ H1 => (∃ z, σ = [some (.ref l), some (.ref p), some (.str zz), z]) ∧ Same H H1 ∧ ∃ kvs, H1 p = some (.dK kvs) ∧ kvs.length ≤ 1 + 10 * i + j ∧ Begun kvs (begN zs i j)) ⟨⟨z, rfl⟩, sm, kvs, h1, hk, hb⟩ ?_ ?_
        · rintro j σ H2 hj ⟨⟨z2, rfl⟩, sm2, kv2, h2, hk2, hb2⟩
          have e0 : (0 + (j : Int)) = ((j : Nat) : Int) := Int.zero_add _
          refine ⟨_, rfl, _, rfl, _, rfl, _, rfl, zz, rfl, ?_, p, _, rfl, DPut.k (k := .inr (cutS zz none (some (0 + (j : Int))))) h2 (Nat.lt_of_le_of_lt hk2 (smallB (by omega))), ⟨_, rfl⟩, same_put sm2 np, _, upd_same, ?_, ?_⟩
          · rw [lz]
            exact Nat.le_trans hzz (by decide)
          · have := length_putK kv2 (.inr (cutS zz none (some (0 + (j : Int))))) (.bl true)
            omega
          · refine begun_put hb2 fun y => ?_
            rw [e0, tl_to zz j (by omega)]
            unfold begN
            constructor
            · rintro (a | ⟨p', e, b, c, d⟩)
              · exact .inl (.inl a)
              · rw [ez] at e
                obtain rfl := Option.some.inj e
                by_cases hd : (tl y).length < j
                · exact .inl (.inr ⟨zz, ez, b, c, hd⟩)
                · refine .inr ?_
                  have hl2 : (tl y).length = j := by omega
                  rw [← hl2]
                  exact List.prefix_iff_eq_take.mp b
            · rintro ((a | ⟨p', e, b, c, d⟩) | a)
              · exact .inl a
              · exact .inr ⟨p', e, b, c, by omega⟩
              · refine .inr ⟨zz, ez, ?_, ?_, ?_⟩
                · rw [a]
                  exact List.take_prefix _ _
                · rw [a, List.length_take]
                  omega
                · rw [a, List.length_take]
                  omega
        · rintro σ H2 ⟨⟨z2, rfl⟩, sm2, kv2, h2, hk2, hb2⟩
          refine ⟨⟨_, _, rfl⟩, sm2, kv2, h2, by omega, fun y => (hb2 y).trans ?_⟩
          unfold begN begS
          have et : zs.take (i + 1) = zs.take i ++ [zz] := by rw [List.take_add_one, ez]; rfl
          constructor
          · rintro ((a | ⟨p', e, b, c⟩) | ⟨p', e, b, c, d⟩)
            · exact .inl (.inl a)
            · exact .inl (.inr ⟨p', by rw [et]; exact List.mem_append_left _ e, b, c⟩)
            · rw [ez] at e
              obtain rfl := Option.some.inj e
              exact .inl (.inr ⟨zz, by rw [et]; exact List.mem_append_right _ (List.mem_singleton.mpr rfl), b, c⟩)
          · rintro ((a | ⟨p', e, b, c⟩) | ⟨p', e, b, c, d⟩)
            · exact .inl (.inl a)
            · rw [et] at e
              rcases List.mem_append.mp e with e | e
              · exact .inl (.inr ⟨p', e, b, c⟩)
              · rw [List.mem_singleton.mp e] at b c
                exact .inr ⟨zz, ez, b, c, c⟩
            · omega
    · rintro σ H1 ⟨⟨y, z, rfl⟩, sm, kvs, h1, hk, hb⟩
      have few := hz.few
      rw [List.length_map] at hk hb
      refine ⟨_, rfl, q p kvs H1 sm np h1 (fun x => (hb x).trans ?_) (by omega)⟩
      unfold begN
      rw [List.take_length]
      exact ⟨fun z => z.elim id (fun ⟨p, e, _⟩ => by rw [List.getElem?_eq_none (Nat.le_refl _)] at e; cases e), .inl⟩
end
end K28

set_option Elab.async false
set_option linter.all false
set_option maxRecDepth 100000
set_option maxHeartbeats 4000000
namespace K28
open PySem PySem.Spec PyProof.Rows L2 Pw TL
section
variable {P : Program} {w : World} {K : PySem.W.Frag} {mg : Str → Option Value} {base : Heap}
/-! longest_end -/
abbrev sLE : Stmt := topS 27
abbrev nLE : List Str := ["row", "begun", "start"]
theorem scLE : FnScope nLE ["row", "begun"] (defScope sLE) := ⟨rfl, rfl, rfl, by decide +kernel, rfl, by decide +kernel, by decide +kernel⟩
def BDict (kvs : List (Key × V)) (B : List (List Nat)) : Prop := Begun kvs fun x => tl x ∈ B
def spLE : Sp := fun vs H Q _ => ∃ (x : Str) (d : Addr) (kvs : List (Key × V)) (B : List (List Nat)), vs = [.str x, .ref d] ∧ H d = some (.dK kvs) ∧ BDict kvs B ∧ (tl x).length ≤ 100 ∧ ∀ z : Str, tl z = lend B (tl x) → Q (.str z) H
theorem lend_skip {B : List (List Nat)} {l : List Nat} : ∀ {i : Nat}, i ≤ l.length → (∀ j, j < i → l.drop j ∉ B) → lend B l = lend B (l.drop i)
  | 0, _, _ => by rw [List.drop_zero]
  | i + 1, hi, h => by
    rw [lend_skip (i := i) (by omega) (fun j hj => h j (by omega)), List.drop_eq_getElem_cons (i := i) (by omega)]
    have := h i (by omega)
    rw [List.drop_eq_getElem_cons (i := i) (by omega)] at this
    show (if _ ∈ B then _ else lend B (l.drop (i + 1))) = _
    rw [if_neg this]
theorem lend_hit {B : List (List Nat)} {l : List Nat} (h : l ∈ B) : lend B l = l := by
  cases l with
  | nil => rfl
  | cons c r =>
    unfold lend
    rw [if_pos h]
theorem ok_le {f : Addr} {fd : FuncData} {k : Nat} (F : Fun K "longest_end" "longest_end" sLE f fd) (mr : mg "range" = none) (ml : mg "len" = none) : FnOk P w K mg base CX0 (k + 1) f fd ["row", "begun"] spLE := by
  refine F.ok scLE (fun vs H Q E h => ?_) (fun cdv A outer s H vs Q E hr h => ?_)
  · obtain ⟨x, d, kvs, B, rfl, _⟩ := h
    rfl
  · obtain ⟨x, d, kvs, B, rfl, hd, hB, hx, q⟩ := h
    refine ⟨_, pss_cons (ps_for PassesOwn.never rfl (pi_range1 rfl mr (pa_cons (pe_callB call_len_str (by rfl) ml PySem.boot_len (pa_cons (pv 0) pa_nil)) pa_nil)) (pg_name (i := 2) scLE.nd rfl (.inl rfl))
        (pss_one (ps_if (pt_cmp (pc_din (room1 hr) (pe_slice sl_str (pv 0) (po_some (pv 2)) po_none) (pv 1))) (pss_one (ps_ret (pe_slice sl_str (pv 0) (po_some (pv 2)) po_none))) pss_nil)))
      (pss_one (ps_ret pe_str)), ?_⟩
    have lx : x.length = (tl x).length := len_tl x
    have hz : x.length ≤ sizeLine := by
      rw [lx]
      exact Nat.le_trans hx (by decide)
    refine ⟨_, rfl, x, rfl, hz, _, rfl, by omega, by omega, ?_⟩
    rw [show ((x.length : Nat) : Int).toNat = (tl x).length by omega]
    refine for_range (lo := 0) (n := (tl x).length) (fun i σ H1 => (∃ y, σ = [some (.str x), some (.ref d), y]) ∧ H1 = H ∧ ∀ j, j < i → (tl x).drop j ∉ B) ⟨⟨none, rfl⟩, rfl, fun j hj => absurd hj (Nat.not_lt_zero _)⟩ ?_ ?_
    · rintro i σ H1 hi ⟨⟨y, rfl⟩, rfl, hn⟩
      have e0 : (0 + (i : Int)) = ((i : Nat) : Int) := Int.zero_add _
      have et : tl (cutS x (some (0 + (i : Int))) none) = (tl x).drop i := by
        rw [e0]
        exact tl_from x i (by omega)
      refine ⟨_, rfl, _, rfl, _, rfl, x, rfl, hz, _, rfl, d, _, rfl, DGet.k (k := .inr (cutS x (some (0 + (i : Int))) none)) hd, _, rfl, ?_⟩
      by_cases hb : (tl x).drop i ∈ B
      · have hs := (hB (cutS x (some (0 + (i : Int))) none)).mpr (by show tl _ ∈ B; rw [et]; exact hb)
        rw [hs]
        refine iteT ⟨_, rfl, _, rfl, _, rfl, x, rfl, hz, q _ ?_⟩
        rw [et, lend_skip (i := i) (by omega) hn, lend_hit hb]
      · have hs : (valV kvs (.inr (cutS x (some (0 + (i : Int))) none))).isSome = false := by
          cases e : (valV kvs (.inr (cutS x (some (0 + (i : Int))) none))).isSome with
          | false => rfl
          | true =>
            have := (hB _).mp e
            have this : tl _ ∈ B := this
            rw [et] at this
            exact absurd this hb
        rw [hs]
        refine iteF ⟨⟨_, rfl⟩, rfl, fun j hj => ?_⟩
        by_cases hji : j = i
        · rw [hji]
          exact hb
        · exact hn j (by omega)
    · rintro σ H1 ⟨⟨y, rfl⟩, rfl, hn⟩
      refine q _ ?_
      rw [lend_skip (Nat.le_refl _) hn, List.drop_length]
      rfl
/-! swung -/
abbrev sSG : Stmt := topS 28
abbrev nSG : List Str := ["risen", "fallen", "sign", "span", "moved"]
theorem scSG : FnScope nSG ["risen", "fallen", "sign", "span"] (defScope sSG) := ⟨rfl, rfl, rfl, by decide +kernel, rfl, by decide +kernel, by decide +kernel⟩
def chr1 (c : Nat) : Str := ⟨#[c]⟩
def spSG : Sp := fun vs H Q _ => ∃ (a b : Int) (c : Nat) (sp : Option Int), vs = [.int a, .int b, .str (chr1 c), vI sp] ∧ (mv (a, b) c sp = none → ∀ H', Same H H' → Q .non H') ∧
  (∀ m, mv (a, b) c sp = some m → ∀ T H', Same H H' → H T = none → H' T = some (.tup [.int m.1, .int m.2]) → Q (.ref T) H')
theorem ok_sg {f : Addr} {fd : FuncData} {k : Nat} (F : Fun K "swung" "swung" sSG f fd) (mm : mg "max" = none) (ms : mg "sum" = none) : FnOk P w K mg base CX0 (k + 1) f fd ["risen", "fallen", "sign", "span"] spSG := by
  refine F.ok scSG (fun vs H Q E h => ?_) (fun cdv A outer s H vs Q E hr h => ?_)
  · obtain ⟨a, b, c, sp, rfl, _⟩ := h
    rfl
  · obtain ⟨a, b, c, sp, rfl, q0, q1⟩ := h
    refine ⟨_, pss_cons (ps_if (pt_cmpR op_isN (pv 3) pe_non (nomark _)) (pss_one (ps_ret (pe_tup (pa_cons pe_int (pa_cons pe_int pa_nil))))) pss_nil)
      (C8.pss_cut (ps_if (pt_cmpR op_eq (pv 2) pe_str (nomark _)) (pss_one (ps_set (i := 4) scSG.nd rfl (.inl rfl) (pe_tup (pa_cons (pe_op op_add (pv 0) pe_int) (pa_cons (pe_callB (call_max2 rfl) (by rfl) mm (by decide +kernel) (pa_cons pe_int (pa_cons (pe_op op_sub (pv 1) pe_int) pa_nil))) pa_nil)))))
        (pss_one (ps_set (i := 4) scSG.nd rfl (.inl rfl) (pe_tup (pa_cons (pe_callB (call_max2 rfl) (by rfl) mm (by decide +kernel) (pa_cons pe_int (pa_cons (pe_op op_sub (pv 0) pe_int) pa_nil))) (pa_cons (pe_op op_add (pv 1) pe_int) pa_nil))))))
      (pss_one (ps_ret (pe_ifExp (pt_cmpR op_le (pe_callB (cr_sumT rfl) (by rfl) ms (by decide +kernel) (pa_cons (pv 4) pa_nil)) (pv 3) (nomark _)) (pv 4) pe_non)))), ?_⟩
    cases sp with
    | none => exact ⟨_, rfl, rfl, _, rfl, iteT ⟨by show 2 ≤ sizeLine; decide, fun T nT => q1 (0, 0) rfl T _ (same_new nT) nT upd_same⟩⟩
    | some s =>
      have mx : ∀ i : Int, (if i > 0 then i else 0) = max 0 i := fun i => by
        by_cases h : i > 0
        · rw [if_pos h]
          omega
        · rw [if_neg h]
          omega
      have hm : ∀ m : Int × Int, m = (if c = 49 then (a + 1, max 0 (b - 1)) else (max 0 (a - 1), b + 1)) → mv (a, b) c (some s) = if m.1 + m.2 ≤ s then some m else none := fun m e => by
        unfold mv
        dsimp only
        rw [← e]
      refine ⟨_, rfl, rfl, _, rfl, iteF ⟨fun σ H3 => ∃ (T : Addr) (m : Int × Int), σ = [some (.int a), some (.int b), some (.str (chr1 c)), some (.int s), some (.ref T)] ∧ Same H H3 ∧ H T = none ∧ H3 T = some (.tup [.int m.1, .int m.2]) ∧ m = (if c = 49 then (a + 1, max 0 (b - 1)) else (max 0 (a - 1), b + 1)), ?_, ?_⟩⟩
      · refine ⟨_, rfl, rfl, _, rfl, ?_⟩
        by_cases hc : c = 49
        · rw [decide_eq_true (by rw [hc]; rfl)]
          refine iteT ⟨_, rfl, a, 1, rfl, rfl, _, rfl, b, 1, rfl, rfl, 0, b - 1, rfl, by show 2 ≤ sizeLine; decide, fun T nT => ⟨T, (a + 1, max 0 (b - 1)), rfl, same_new nT, nT, ?_, by rw [if_pos hc]⟩⟩
          rw [upd_same, mx]
        · rw [decide_eq_false (fun z => hc (by
            have z : V.str (chr1 c) = V.str (Str.ofString "1") := z
            have z := V.str.inj z
            have z2 : tl (chr1 c) = [49] := by rw [z]; rfl
            exact List.head_eq_of_cons_eq z2))]
          refine iteF ⟨_, rfl, a, 1, rfl, rfl, 0, a - 1, rfl, _, rfl, b, 1, rfl, rfl, by show 2 ≤ sizeLine; decide, fun T nT => ⟨T, (max 0 (a - 1), b + 1), rfl, same_new nT, nT, ?_, by rw [if_neg hc]⟩⟩
          rw [upd_same, mx]
      · rintro _ H3 ⟨T, m, rfl, sm, nT, hT, em⟩
        refine ⟨_, rfl, T, [m.1, m.2], rfl, SqT.of hT, _, rfl, _, s, rfl, rfl, _, rfl, ?_⟩
        have es : [m.1, m.2].sum = m.1 + m.2 := by simp
        rw [es]
        by_cases hle : m.1 + m.2 ≤ s
        · rw [decide_eq_true hle]
          refine iteT ⟨_, rfl, q1 m ?_ T H3 sm nT hT⟩
          rw [hm m em, if_pos hle]
        · rw [decide_eq_false hle]
          refine iteF (q0 ?_ H3 sm)
          rw [hm m em, if_neg hle]
end
end K28

set_option Elab.async false
set_option linter.all false
set_option maxRecDepth 100000
set_option maxHeartbeats 4000000
namespace K28
open PySem PySem.Spec PyProof.Rows L2 Pw TL
section
variable {P : Program} {w : World} {K : PySem.W.Frag} {mg : Str → Option Value} {base : Heap}
theorem ends_is (x y : Str) : Txt.endswith x y = decide (tl y <:+ tl x) := by
  unfold Txt.endswith
  rw [Bool.eq_iff_iff, decide_eq_true_iff, Bool.and_eq_true, decide_eq_true_iff, PySem.StrLaws.subAt_eq, beq_iff_eq]
  have lx : x.length = (tl x).length := len_tl x
  have ly : y.length = (tl y).length := len_tl y
  show 0 + y.length ≤ x.length ∧ ((tl x).drop (x.length - y.length)).take y.length = tl y ↔ _
  rw [lx, ly]
  have ht : ((tl x).drop ((tl x).length - (tl y).length)).take (tl y).length = (tl x).drop ((tl x).length - (tl y).length) := List.take_of_length_le (by rw [List.length_drop]; omega)
  rw [ht]
  constructor
  · rintro ⟨_, h⟩
    rw [← h]
    exact List.drop_suffix _ _
  · intro h
    exact ⟨by have := h.length_le; omega, (List.suffix_iff_eq_drop.mp h).symm⟩
def rEW : V → List V → Hp → VK → Prop := fun x xs H Q => ∃ a b, x = .str a ∧ xs = [.str b] ∧ Q (.bl (Txt.endswith a b)) H
/-! trace_after -/
abbrev sTA : Stmt := topS 29
abbrev nTA : List Str := ["trace", "sign", "pieces", "begun", "span", "end", "risen", "fallen", "longer", "moved", "piece"]
abbrev pTA : List Str := ["trace", "sign", "pieces", "begun", "span"]
theorem scTA : FnScope nTA pTA (defScope sTA) := ⟨rfl, rfl, rfl, by decide +kernel, rfl, by decide +kernel, by decide +kernel⟩
/-- a trace as it stands -/
def TrAt (H : Hp) (t : Addr) (tr : Tr) : Prop := ∃ e : Str, H t = some (.tup [.str e, .int tr.2.1, .int tr.2.2]) ∧ tl e = tr.1
theorem TrAt.same {H H' : Hp} {t : Addr} {tr : Tr} (h : TrAt H t tr) (s : Same H H') : TrAt H' t tr := let ⟨e, a, b⟩ := h; ⟨e, s _ _ a, b⟩
def spTA : Sp := fun vs H Q _ => ∃ (t l d : Addr) (tr : Tr) (c : Nat) (zs : List Str) (kvs : List (Key × V)) (B : List (List Nat)) (sp : Option Int), vs = [.ref t, .str (chr1 c), .ref l, .ref d, vI sp] ∧ TrAt H t tr ∧ tr.1.length ≤ 50 ∧ H l = some (.lst (zs.map V.str)) ∧ Pcs zs ∧ H d = some (.dK kvs) ∧ BDict kvs B ∧
  (stP (zs.map tl) B sp tr c = none → ∀ H', Same H H' → Q .non H') ∧ (∀ tr', stP (zs.map tl) B sp tr c = some tr' → ∀ T H', Same H H' → H T = none → TrAt H' T tr' → Q (.ref T) H')
theorem ok_ta {f fS fL : Addr} {fd fdS fdL : FuncData} (F : Fun K "trace_after" "trace_after" sTA f fd) (ma : mg "any" = none)
    (GS : FnOk P w K mg base CX0 1 fS fdS ["risen", "fallen", "sign", "span"] spSG) (gm : mg "swung" = some (.ref fS)) (gk : PySem.W.keepIn K (.ref fS) = true) (gb : Binds K fdS ["risen", "fallen", "sign", "span"] [])
    (GL : FnOk P w K mg base CX0 1 fL fdL ["row", "begun"] spLE) (lm : mg "longest_end" = some (.ref fL)) (lk : PySem.W.keepIn K (.ref fL) = true) (lb : Binds K fdL ["row", "begun"] []) :
    FnOk P w K mg base CX0 2 f fd pTA spTA := by
  refine F.ok scTA (fun vs H Q E h => ?_) (fun cdv A outer s H vs Q E hr h => ?_)
  · obtain ⟨t, l, d, tr, c, zs, kvs, B, sp, rfl, _⟩ := h
    rfl
  · obtain ⟨t, l, d, tr, c, zs, kvs, B, sp, rfl, ht, h50, hl, hz, hd, hB, q0, q1⟩ := h
    refine ⟨_, pss_cons (ps_asg (pv 0) (pg_tup rfl (pgs_cons (pg_name (i := 5) scTA.nd rfl (.inl rfl)) (pgs_cons (pg_name (i := 6) scTA.nd rfl (.inl rfl)) (pgs_cons (pg_name (i := 7) scTA.nd rfl (.inl rfl)) pgs_nil)))))
      (pss_cons (ps_set (i := 8) scTA.nd rfl (.inr rfl) (pe_op op_add_str (pv 5) (pv 1)))
      (C8.pss_cut (ps_set (i := 9) scTA.nd rfl (.inl rfl) (pe_call GS hr rfl gm gk gb .nil pass0 (pa_cons (pv 6) (pa_cons (pv 7) (pa_cons (pv 1) (pa_cons (pv 4) pa_nil))))))
      (C8.pss_cut (ps_if (PW.pt (pw_or (pt_cmpR op_isN (pv 9) pe_non (nomark _)) (pw_or1 (pt_val (pe_callB (cr_any rfl) (by rfl) ma (by decide +kernel) (pa_cons (pe_lc (own := [("piece", 10)]) (g := gName 10) (tt := tYes) (te := tBM K "str" rEW (tVar 8) (tCons (tVar 10) tNil)) rfl scTA.nd (pi_list (pv 2))
          (blkOk_by (N := nTA) (sc := defScope sTA) (by decide +kernel)) (fun _ _ _ _ _ => pg_name (i := 10) scTA.nd rfl (Or.inl rfl)) (fun _ _ _ _ _ => pts_nil) (fun _ _ _ _ _ => pe_bm PySem.F.plainAttrs_str PySem.F.slot_str_endswith PySem.F.type_str_endswith (r := rEW) mt_endswith (pv 8) (pa_cons (pv 10) pa_nil))) pa_nil)))))) (pss_one (ps_ret pe_non)) pss_nil)
      (pss_one (ps_ret (pe_tup (pa_cons (pe_call GL hr rfl lm lk lb .nil pass0 (pa_cons (pv 8) (pa_cons (pv 3) pa_nil))) (pa_cons (pe_ix ix_tup (pv 9) pe_int (fun _ _ => rfl)) (pa_cons (pe_ix ix_tup (pv 9) pe_int (fun _ _ => rfl)) pa_nil))))))))), ?_⟩
    obtain ⟨e, he, ee⟩ := ht
    have le : (tl (e ++ chr1 c)).length = tr.1.length + 1 := by
      rw [tl_append, List.length_append, ee]
      rfl
    have et : tl (e ++ chr1 c) = tr.1 ++ [c] := by
      rw [tl_append, ee]
      rfl
    refine ⟨_, rfl, t, _, rfl, SqT.of he, rfl, _, _, rfl, _, _, rfl, _, _, rfl, rfl, ?_⟩
    refine ⟨_, rfl, _, rfl, e, chr1 c, rfl, rfl, ?_, ?_⟩
    · rw [len_tl e, len_tl (chr1 c), ee]
      exact Nat.le_trans (Nat.add_le_add_right h50 1) (by decide)
    refine ⟨fun σ H1 => ∃ v, σ = [some (.ref t), some (.str (chr1 c)), some (.ref l), some (.ref d), some (vI sp), some (.str e), some (.int tr.2.1), some (.int tr.2.2), some (.str (e ++ chr1 c)), some v, none] ∧ Same H H1 ∧
      ((v = .non ∧ mv tr.2 c sp = none) ∨ ∃ T m, v = .ref T ∧ mv tr.2 c sp = some m ∧ H1 T = some (.tup [.int m.1, .int m.2])), ?_, ?_⟩
    · refine ⟨_, rfl, _, rfl, _, rfl, _, rfl, tr.2.1, tr.2.2, c, sp, rfl, fun h H1 sm => ?_, fun m h T H1 sm nT hT => ?_⟩
      · exact ⟨.non, rfl, sm, .inl ⟨rfl, h⟩⟩
      · exact ⟨.ref T, rfl, sm, .inr ⟨T, m, rfl, h, hT⟩⟩
    · rintro _ H1 ⟨v, rfl, sm, hv⟩
      rcases hv with ⟨rfl, hv⟩ | ⟨T, m, rfl, hv, hT⟩
      · refine ⟨fun σ G => False, ⟨_, rfl, rfl, _, rfl, ?_⟩, fun σ G z => z.elim⟩
        refine iteT (iteT (q0 ?_ H1 sm))
        unfold stP
        rw [hv]
        rfl
      · have es : stP (zs.map tl) B sp tr c = if hits (zs.map tl) (tr.1 ++ [c]) = true then none else some (lend B (tr.1 ++ [c]), m) := by
          unfold stP
          rw [hv]
          rfl
        refine ⟨fun σ G => ∃ y, σ = [some (.ref t), some (.str (chr1 c)), some (.ref l), some (.ref d), some (vI sp), some (.str e), some (.int tr.2.1), some (.int tr.2.2), some (.str (e ++ chr1 c)), some (.ref T), y] ∧ Same H1 G ∧ hits (zs.map tl) (tr.1 ++ [c]) = false, ⟨_, rfl, rfl, _, rfl, ?_⟩, ?_⟩
        · refine iteF ⟨_, rfl, l, rfl, ⟨_, SqL.of (sm _ _ hl)⟩, fun D nD => ?_⟩
          have hg : ∀ z : Str, Txt.endswith (e ++ chr1 c) z = decide (tl z <:+ tr.1 ++ [c]) := fun z => by rw [ends_is, et]
          refine lc_list (K := K) (a := l) (xs := zs.map V.str) (fun i H2 => Same H1 H2 ∧ H2 D = some (.lst (((zs.map fun z => decide (tl z <:+ tr.1 ++ [c])).take i).map V.bl))) ⟨same_new nD, upd_same⟩ (fun i H2 _ h => SqL.of (h.1 _ _ (sm _ _ hl))) (fun i v H2 hv h => ?_) (fun H2 h => ?_)
          · obtain ⟨s2, h3⟩ := h
            rw [List.getElem?_map] at hv
            cases ez : zs[i]? with
            | none =>
              rw [ez] at hv
              cases hv
            | some z =>
              rw [ez] at hv
              obtain rfl : V.str z = v := Option.some.inj hv
              have hgi : (zs.map fun z => decide (tl z <:+ tr.1 ++ [c]))[i]? = some (decide (tl z <:+ tr.1 ++ [c])) := by
                rw [List.getElem?_map, ez]
                rfl
              refine ⟨rfl, _, rfl, rfl, _, rfl, _, _, rfl, rfl, _, h3, ?_, same_put s2 nD, ?_⟩
              · rw [List.length_map, List.length_take, List.length_map]
                have := hz.few
                exact Nat.lt_of_le_of_lt (Nat.min_le_right _ _) (smallB (by omega))
              · rw [upd_same, List.take_add_one, hgi, List.map_append, hg z]
                rfl
          · obtain ⟨s2, h3⟩ := h
            rw [List.length_map, ← List.length_map (f := fun z : Str => decide (tl z <:+ tr.1 ++ [c])), List.take_length] at h3
            have ea : (zs.map fun z => decide (tl z <:+ tr.1 ++ [c])).any id = hits (zs.map tl) (tr.1 ++ [c]) := by
              unfold hits
              rw [List.any_map, List.any_map]
              rfl
            refine ⟨D, _, rfl, SqL.of h3, _, rfl, ?_⟩
            rw [ea]
            cases hh : hits (zs.map tl) (tr.1 ++ [c]) with
            | true =>
              refine iteT (q0 ?_ H2 (sm.trans s2))
              rw [es, if_pos hh]
            | false => exact iteF ⟨_, rfl, s2, rfl⟩
        · rintro _ G ⟨y, rfl, sg, hh⟩
          have sG := sm.trans sg
          refine ⟨_, rfl, _, rfl, e ++ chr1 c, d, kvs, B, rfl, sG _ _ hd, hB, ?_, fun z ez => ?_⟩
          · rw [le]
            omega
          refine ⟨_, rfl, T, _, 0, .int m.1, rfl, rfl, SqT.of (sg _ _ hT), rfl, _, rfl, T, _, 1, .int m.2, rfl, rfl, SqT.of (sg _ _ hT), rfl, by show 3 ≤ sizeLine; decide, fun T2 n2 => ?_⟩
          refine q1 (lend B (tr.1 ++ [c]), m) ?_ T2 _ (sG.trans (same_new n2)) (sG.free n2) ⟨z, upd_same, ?_⟩
          · rw [es, hh]
            rfl
          · rw [ez, et]
end
end K28

set_option Elab.async false
set_option linter.all false
set_option maxRecDepth 100000
set_option maxHeartbeats 4000000
namespace K28
open PySem PySem.Spec PyProof.Rows L2 Pw TL
section
variable {P : Program} {w : World} {K : PySem.W.Frag} {mg : Str → Option Value} {base : Heap}
/-! numbered, of traces -/
abbrev sNB : Stmt := topS 30
abbrev nNB : List Str := ["start", "onward", "numbers", "reached", "pairs", "goals", "goal"]
theorem scNB : FnScope nNB ["start", "onward"] (defScope sNB) := ⟨rfl, rfl, rfl, by decide +kernel, rfl, by decide +kernel, by decide +kernel⟩
def oV : Option Nat → V
  | none => .non
  | some n => .int (n : Nat)
/-- a graph as it stands from place n on -/
def GrAt (H : Hp) (p : Addr) (W : Gr) : Prop := ∃ ts : List Addr, H p = some (.lst (ts.map V.ref)) ∧ Paired (fun t (pr : Pr) => H t = some (.tup [oV pr.1, oV pr.2])) ts W
def OptAt (H : Hp) (v : V) (o : Option Tr) : Prop := (v = .non ∧ o = none) ∨ ∃ t s, v = .ref t ∧ o = some s ∧ TrAt H t s
def keyT (s : Tr) : List Leaf := [.text ⟨s.1.toArray⟩, .num s.2.1, .num s.2.2]
theorem keyT_inj {s s' : Tr} (h : keyT s = keyT s') : s = s' := by
  obtain ⟨a, b, c⟩ := s
  obtain ⟨a', b', c'⟩ := s'
  unfold keyT at h
  simp only [List.cons.injEq, Leaf.text.injEq, Leaf.num.injEq, and_true] at h
  obtain ⟨h1, h2, h3⟩ := h
  have h1 : (⟨a.toArray⟩ : Str) = ⟨a'.toArray⟩ := h1
  have h1 : a.toArray = a'.toArray := by injection h1
  have h1 : a = a' := by simpa using congrArg Array.toList h1
  rw [h1, h2, h3]
def TTT (st : Tr → Bool → Option Tr) (Rs : Tr → Prop) (U : List Tr) : V → (V → Hp → VK → Prop) → Hp → VK → Prop := fun v0 tl H Q => ∃ t0 s0, v0 = .ref t0 ∧ TrAt H t0 s0 ∧ Rs s0 ∧ U.length ≤ 10000 ∧ (∀ s, Rs s → s ∈ U) ∧ (∀ s c s', Rs s → st s c = some s' → Rs s') ∧
  (∀ G t s Q', Same H G → TrAt G t s → Rs s → (∀ p v0 v1 G', Same G G' → G p = none → G' p = some (.lst [v0, v1]) → OptAt G' v0 (st s false) → OptAt G' v1 (st s true) → Q' (.ref p) G') → tl (.ref t) G Q') ∧
  (∀ R W p G, Done st s0 R W → W.length ≤ 10000 → Same H G → H p = none → GrAt G p W → Q (.ref p) G)
theorem TrAt.keep {G G' : Hp} {t : Addr} {s : Tr} (h : TrAt G t s) (k : ∀ b ys, G b = some (.tup ys) → G' b = some (.tup ys)) : TrAt G' t s := let ⟨e, a, b⟩ := h; ⟨e, k _ _ a, b⟩
theorem OptAt.keep {G G' : Hp} {v : V} {o : Option Tr} (h : OptAt G v o) (k : ∀ b ys, G b = some (.tup ys) → G' b = some (.tup ys)) : OptAt G' v o := h.elim .inl fun ⟨t, s, a, b, c⟩ => .inr ⟨t, s, a, b, c.keep k⟩
theorem TrAt.leaf {G : Hp} {t : Addr} {s : Tr} (h : TrAt G t s) : ∃ vs, G t = some (.tup vs) ∧ LfVs vs (keyT s) := by
  obtain ⟨e, a, b⟩ := h
  refine ⟨_, a, ?_⟩
  have ee : (⟨s.1.toArray⟩ : Str) = e := tl_eq (by rw [b])
  unfold keyT
  rw [ee]
  exact .cons (.str e) (.cons (.int _) (.cons (.int _) .nil))
/-- what has been reached: the dict of numbers and the list -/
structure St1 (P : Program) (w : World) (H G : Hp) (dn rn : Addr) (R : List Tr) (ts : List Addr) (kvs : List (List Leaf × V)) : Prop where
  dx : DX P w G dn kvs
  val : ∀ s, valV kvs (keyT s) = if s ∈ R then some (.int (posn R s : Nat)) else none
  kl : kvs.length ≤ R.length
  rl : G rn = some (.lst (ts.map V.ref))
  tr : Paired (fun t s => TrAt G t s) ts R
  sm : Same H G
  nd : H dn = none
  nr : H rn = none
theorem dx_at {H : Hp} {a : Addr} {kvs : List (List Leaf × V)} (d : DX P w H a kvs) : ∃ xs, H a = some (dxO P w a xs) := let ⟨xs, _, _, _, e⟩ := d; ⟨xs, e⟩
theorem St1.dne {H G : Hp} {dn rn b : Addr} {R : List Tr} {ts : List Addr} {kvs : List (List Leaf × V)} {o : HO} (h : St1 P w H G dn rn R ts kvs) (e : G b = some o) (k : (∃ xs, o = .lst xs) ∨ ∃ xs, o = .tup xs) : b ≠ dn := fun z => by
  obtain ⟨xs, hx⟩ := dx_at h.dx
  rw [z, hx] at e
  rcases k with ⟨ys, rfl⟩ | ⟨ys, rfl⟩ <;> cases e
theorem St1.rne {H G : Hp} {dn rn b : Addr} {R : List Tr} {ts : List Addr} {kvs : List (List Leaf × V)} {ys : List V} (h : St1 P w H G dn rn R ts kvs) (e : G b = some (.tup ys)) : b ≠ rn := fun z => by
  rw [z, h.rl] at e
  cases e
theorem St1.more {H G G' : Hp} {dn rn : Addr} {R : List Tr} {ts : List Addr} {kvs : List (List Leaf × V)} (h : St1 P w H G dn rn R ts kvs) (s : Same G G') : St1 P w H G' dn rn R ts kvs :=
  ⟨h.dx.same s, h.val, h.kl, s _ _ h.rl, Paired.mapP h.tr fun _ _ z => z.same s, h.sm.trans s, h.nd, h.nr⟩
theorem St1.put {H G : Hp} {dn rn t : Addr} {R : List Tr} {ts : List Addr} {kvs : List (List Leaf × V)} {s : Tr} {ob : HO} (h : St1 P w H G dn rn R ts kvs) (hs : s ∉ R) (ht : TrAt G t s) (d : DX P w (upd G dn ob) dn (putK kvs (keyT s) (.int (R.length : Nat)))) :
    St1 P w H (upd (upd G dn ob) rn (.lst (ts.map V.ref ++ [.ref t]))) dn rn (R ++ [s]) (ts ++ [t]) (putK kvs (keyT s) (.int (R.length : Nat))) := by
  have rd : rn ≠ dn := h.dne h.rl (.inl ⟨_, rfl⟩)
  have kp : ∀ b ys, G b = some (.tup ys) → upd (upd G dn ob) rn (.lst (ts.map V.ref ++ [.ref t])) b = some (.tup ys) := fun b ys e => by
    rw [upd_ne (h.rne e), upd_ne (h.dne e (.inr ⟨_, rfl⟩))]
    exact e
  refine ⟨d.keep fun b o e k => ?_, fun s' => ?_, ?_, ?_, ?_, same_put (same_put h.sm h.nd) h.nr, h.nd, h.nr⟩
  · have bn : b ≠ rn := by
      rcases k with z | ⟨ys, z⟩
      · rw [z]
        exact fun z => rd z.symm
      · intro z2
        rw [z2, upd_ne rd, h.rl, z] at e
        cases e
    rw [upd_ne bn]
    exact e
  · rw [valV_put]
    by_cases c : keyT s' = keyT s
    · rw [if_pos c, keyT_inj c, if_pos (List.mem_append_right _ (List.mem_singleton.mpr rfl)), posn_new hs]
    · have ne : s' ≠ s := fun z => c (by rw [z])
      rw [if_neg c, h.val]
      by_cases m : s' ∈ R
      · rw [if_pos m, if_pos (List.mem_append_left _ m), posn_pre (List.prefix_append _ _) m]
      · rw [if_neg m, if_neg (fun z => (List.mem_append.mp z).elim m fun z => ne (List.mem_singleton.mp z))]
  · have := length_putK kvs (keyT s) (.int (R.length : Nat))
    have := h.kl
    rw [List.length_append]
    show _ ≤ _ + 1
    omega
  · rw [upd_same, List.map_append]
    rfl
  · exact Paired.snoc (Paired.mapP h.tr fun _ _ z => z.keep kp) (ht.keep kp)
theorem St1.other {H G : Hp} {dn rn b : Addr} {R : List Tr} {ts : List Addr} {kvs : List (List Leaf × V)} {o : HO} (h : St1 P w H G dn rn R ts kvs) (bd : b ≠ dn) (br : b ≠ rn) (nb : H b = none) (nt : ∀ ys, G b ≠ some (.tup ys)) : St1 P w H (upd G b o) dn rn R ts kvs := by
  have kp : ∀ c ys, G c = some (.tup ys) → upd G b o c = some (.tup ys) := fun c ys e => by
    rw [upd_ne (fun z => nt ys (by rw [← z]; exact e))]
    exact e
  refine ⟨h.dx.keep fun c u e k => ?_, h.val, h.kl, ?_, Paired.mapP h.tr fun _ _ z => z.keep kp, same_put h.sm nb, h.nd, h.nr⟩
  · rcases k with z | ⟨ys, z⟩
    · rw [z, upd_ne (fun z => bd z.symm)]
      rw [z] at e
      exact e
    · rw [z] at e ⊢
      exact kp c ys e
  · rw [upd_ne (fun z => br z.symm)]
    exact h.rl
theorem pairs_ext {st : Tr → Bool → Option Tr} {R R' : List Tr} {n : Nat} (hp : R <+: R') (hn : n ≤ R.length) (ha : ∀ s ∈ R.take n, ∀ c g, st s c = some g → g ∈ R) : Pw.pairsOf st R' n = Pw.pairsOf st R n := by
  unfold Pw.pairsOf
  obtain ⟨t, rfl⟩ := hp
  rw [List.take_append_of_le_length hn]
  refine List.map_congr_left fun s hs => ?_
  have one : ∀ c, (st s c).map (posn (R ++ t)) = (st s c).map (posn R) := fun c => by
    cases e : st s c with
    | none => rfl
    | some g =>
      show some _ = some _
      rw [posn_pre (List.prefix_append _ _) (ha s hs c g e)]
  rw [one, one]
theorem bi_take {st : Tr → Bool → Option Tr} {s0 : Tr} {R : List Tr} {Pl : List Nat} {n : Nat} (b : BI st s0 R Pl (2 * n)) (hn : n ≤ R.length) : ∀ s ∈ R.take n, ∀ c g, st s c = some g → g ∈ R := fun s hs c g e => by
  obtain ⟨k, hk, ek⟩ := List.getElem_of_mem hs
  rw [List.length_take] at hk
  rw [List.getElem_take] at ek
  refine b.all (edge k c) (edge_lt (by omega)) g ?_
  unfold tgt
  rw [edge_div, edge_mod, List.getElem?_eq_getElem (by omega), ek]
  exact e
theorem paired_get {α β : Type} {F : α → β → Prop} : ∀ {l₁ : List α} {l₂ : List β} {i : Nat} {a : α} {b : β}, Paired F l₁ l₂ → l₁[i]? = some a → l₂[i]? = some b → F a b
  | _, _, 0, a, b, .cons h _, e1, e2 => by
    cases e1
    cases e2
    exact h
  | _, _, i + 1, a, b, .cons _ t, e1, e2 => paired_get (i := i) t e1 e2
theorem GrAt.keep {G G' : Hp} {p : Addr} {W : Gr} (h : GrAt G p W) (hp : ∀ xs, G p = some (.lst xs) → G' p = some (.lst xs)) (k : ∀ b ys, G b = some (.tup ys) → G' b = some (.tup ys)) : GrAt G' p W := let ⟨ts, a, b⟩ := h; ⟨ts, hp _ a, Paired.mapP b fun _ _ z => k _ _ z⟩
theorem gives_numT {X : Cx} {g : Addr} {cdg : Value} {q : Str} {st : Tr → Bool → Option Tr} {Rs : Tr → Prop} {U : List Tr} (ml : X.mg "len" = none) (mt : X.mg "tuple" = none) : GivesP X nNB "numbered" (defScope sNB) g cdg (defBody sNB) "onward" q (TTT st Rs U) := by
  intro f c' s H v0 Q tl k hr HA hco h
  obtain ⟨t0, s0, rfl, ht0, hs0, hU, hin, hcl, hst, hq⟩ := h
  refine ⟨_, pss_cons (ps_set (i := 2) scNB.nd rfl (.inr rfl) (pe_xone (by have := room1 hr; exact Nat.lt_of_succ_lt this) (pv 0) pe_int))
    (pss_cons (ps_set (i := 3) scNB.nd rfl (.inl rfl) (pe_lst (pa_cons (pv 0) pa_nil)))
    (pss_cons (ps_set (i := 4) scNB.nd rfl (.inl rfl) (pe_lst pa_nil))
    (pss_cons (ps_while PassesOwn.never (pt_cmpR op_lt (pe_callB call_len_seq (by rfl) ml PySem.boot_len (pa_cons (pv 4) pa_nil)) (pe_callB call_len_seq (by rfl) ml PySem.boot_len (pa_cons (pv 3) pa_nil)) (nomark _))
      (pss_cons (ps_set (i := 5) scNB.nd rfl (.inl rfl) (HA _ _ _ _ (fun _ => rfl) (pe_ix ix_list (pv 3) (pe_callB call_len_seq (by rfl) ml PySem.boot_len (pa_cons (pv 4) pa_nil)) (fun _ _ => rfl))))
      (C8.pss_cut (ps_for PassesOwn.never rfl (pi_list (pv 5)) (pg_name (i := 6) scNB.nd rfl (.inl rfl))
        (pss_one (ps_if (PW.pt (pw_and (pt_cmpR op_notN (pv 6) pe_non (nomark _)) (pw_and1 (pt_cmp (pc_xnotin (room1 hr) (pv 6) (pv 2))))))
          (pss_cons (ps_xput (room1 hr) (pv 2) (pv 6) (pe_callB call_len_seq (by rfl) ml PySem.boot_len (pa_cons (pv 3) pa_nil)) rfl)
          (pss_one (ps_expr (pe_bm PySem.F.plainAttrs_list PySem.F.slot_list_append PySem.F.type_list_append mt_append (pv 3) (pa_cons (pv 6) pa_nil))))) pss_nil)))
      (pss_one (ps_expr (pe_bm PySem.F.plainAttrs_list PySem.F.slot_list_append PySem.F.type_list_append mt_append (pv 4) (pa_cons (pe_callTy call_tuple_of (by rfl) mt (by decide +kernel) (pa_cons (pe_lc (own := [("goal", 6)]) (g := gName 6) (tt := tYes) rfl scNB.nd (pi_list (pv 5))
        (blkOk_by (N := nNB) (sc := defScope sNB) (by decide +kernel)) (fun _ _ _ _ _ => pg_name (i := 6) scNB.nd rfl (Or.inl rfl)) (fun _ _ _ _ _ => pts_nil)
        (fun _ _ _ _ _ => pe_ifExp (tb := tXGet X.prog X.w (tVar 2) (tVar 6)) (pt_cmpR op_isN (pv 6) pe_non (nomark _)) pe_non (pe_xget (room1 hr) (pv 2) (pv 6) (fun _ _ => rfl)))) pa_nil)) pa_nil)))))))
    (pss_one (ps_ret (pv 4)))))), ?_⟩
  intro dn ob0 ndn dx0
  obtain ⟨vs0, hv0, lf0⟩ := ht0.leaf
  have tn : t0 ≠ dn := ne_of_none hv0 ndn
  refine ⟨.ref t0, rfl, upd_same, t0, vs0, _, rfl, by rw [upd_ne tn]; exact hv0, lf0, fun ob dx => ?_⟩
  refine ⟨_, rfl, by show 1 ≤ sizeLine; decide, fun rn nrn => ?_⟩
  refine ⟨by show 0 ≤ sizeLine; decide, fun pn npn => ?_⟩
  have rd : rn ≠ dn := fun z => by
    rw [z, upd_same] at nrn
    cases nrn
  have hrn : H rn = none := NdefX.upd_none (NdefX.upd_none nrn)
  have pr : pn ≠ rn := fun z => by
    rw [z, upd_same] at npn
    cases npn
  have hpn : H pn = none := NdefX.upd_none (NdefX.upd_none (NdefX.upd_none npn))
  have S0 : St1 X.prog X.w H (upd (upd (upd (upd H dn ob0) dn ob) rn (.lst [.ref t0])) pn (.lst [])) dn rn [s0] [t0] [(keyT s0, .int 0)] := by
    have s1 : Same H (upd (upd H dn ob0) dn ob) := same_put (same_new ndn) ndn
    have s3 : Same (upd (upd H dn ob0) dn ob) (upd (upd (upd (upd H dn ob0) dn ob) rn (.lst [.ref t0])) pn (.lst [])) := (same_new nrn).trans (same_new npn)
    refine ⟨dx.same s3, fun s => ?_, Nat.le_refl _, ?_, .cons (ht0.same (s1.trans s3)) .nil, s1.trans s3, ndn, hrn⟩
    · by_cases e : s = s0
      · rw [e, if_pos (List.mem_singleton.mpr rfl), valV_pos rfl]
        have : posn [s0] s0 = 0 := posn_eq (R := [s0]) (List.nodup_cons.mpr ⟨(fun z => nomatch z), List.nodup_nil⟩) rfl
        rw [this]
        rfl
      · rw [if_neg (fun z => e (List.mem_singleton.mp z)), valV_neg (fun z => e (keyT_inj z).symm)]
        rfl
    · rw [upd_ne (fun z => pr z.symm), upd_same]
      rfl
  refine ⟨fun m σ G => ∃ (n : Nat) (R : List Tr) (ts : List Addr) (kvs : List (List Leaf × V)) (Pl : List Nat) (y5 y6 : Option V), σ = [some (.ref t0), some (.ref f), some (.ref dn), some (.ref rn), some (.ref pn), y5, y6] ∧ St1 X.prog X.w H G dn rn R ts kvs ∧ BI st s0 R Pl (2 * n) ∧ n ≤ R.length ∧ (∀ s ∈ R, Rs s) ∧ GrAt G pn (Pw.pairsOf st R n) ∧ m + n = 10001,
    ⟨10001, 0, [s0], [t0], _, [], none, none, rfl, S0, BI.start s0, Nat.zero_le _, fun s hs => by rw [List.mem_singleton.mp hs]; exact hs0, ⟨[], upd_same, .nil⟩, rfl⟩, ?_⟩
  rintro m σ G ⟨n, R, ts, kvs, Pl, y5, y6, rfl, S, b, hn, hR, ⟨us, hu, hp⟩, hm⟩
  have hlen : us.length = n := (Paired.length hp).trans (Pw.pairs_len hn)
  have htl : ts.length = R.length := Paired.length S.tr
  have hRU : R.length ≤ 10000 := Nat.le_trans (nd_le R U b.nd fun s hs => hin s (hR s hs)) hU
  refine ⟨_, rfl, pn, _, rfl, .inl (SqL.of hu), _, rfl, rn, _, rfl, .inl (SqL.of S.rl), _, _, rfl, rfl, _, rfl, ?_⟩
  rw [List.length_map, List.length_map, hlen, htl]
  by_cases hlt : n < R.length
  · rw [decide_eq_true (by omega)]
    refine iteT ⟨fun σ G => ∃ (R : List Tr) (ts : List Addr) (kvs : List (List Leaf × V)) (Pl : List Nat) (y5 y6 : Option V), σ = [some (.ref t0), some (.ref f), some (.ref dn), some (.ref rn), some (.ref pn), y5, y6] ∧ St1 X.prog X.w H G dn rn R ts kvs ∧ BI st s0 R Pl (2 * (n + 1)) ∧ n + 1 ≤ R.length ∧ (∀ s ∈ R, Rs s) ∧ GrAt G pn (Pw.pairsOf st R (n + 1)), ?_, ?_⟩
    · rintro σ' G' ⟨R, ts, kvs, Pl, y5, y6, h1, h2, h3, h4, h5, h6⟩
      exact ⟨m - 1, by omega, n + 1, R, ts, kvs, Pl, y5, y6, h1, h2, h3, h4, h5, h6, by omega⟩
    obtain ⟨t, s, et, es, hts⟩ : ∃ t s, ts[n]? = some t ∧ R[n]? = some s ∧ TrAt G t s := by
      have e1 : ts[n]? = some ts[n] := List.getElem?_eq_getElem (by omega)
      have e2 : R[n]? = some R[n] := List.getElem?_eq_getElem hlt
      exact ⟨_, _, e1, e2, paired_get S.tr e1 e2⟩
    have hat : atI (ts.map V.ref) ((us.map V.ref).length : Nat) = some (.ref t) := by
      rw [List.length_map, hlen]
      exact atI_nat (by rw [List.getElem?_map, et]; rfl)
    refine ⟨rfl, _, rfl, _, rfl, pn, _, rfl, .inl (SqL.of hu), rn, _, _, .ref t, rfl, rfl, SqL.of S.rl, hat, S.sm _ _ hco, ?_⟩
    refine hst G t s _ S.sm hts (hR s (List.mem_of_getElem? es)) fun p v0 v1 G1 sg np hg o0 o1 => ?_
    have pdn : p ≠ dn := fun z => by
      obtain ⟨xs, hx⟩ := dx_at S.dx
      rw [z, hx] at np
      cases np
    have prn : p ≠ rn := fun z => by
      rw [z, S.rl] at np
      cases np
    refine ⟨fun σ G => ∃ (R2 : List Tr) (ts : List Addr) (kvs : List (List Leaf × V)) (Pl : List Nat) (y6 : Option V), σ = [some (.ref t0), some (.ref f), some (.ref dn), some (.ref rn), some (.ref pn), some (.ref p), y6] ∧ St1 X.prog X.w H G dn rn R2 ts kvs ∧ BI st s0 R2 Pl (2 * n + 2) ∧ R <+: R2 ∧ (∀ s ∈ R2, Rs s) ∧ GrAt G pn (Pw.pairsOf st R n) ∧ G p = some (.lst [v0, v1]) ∧ OptAt G v0 (st s false) ∧ OptAt G v1 (st s true), ?_, ?_⟩
    · refine ⟨_, rfl, p, rfl, ⟨_, SqL.of hg⟩, for_list (K := X.K) (a := p) (xs := [v0, v1]) (fun i σ G => ∃ (R2 : List Tr) (ts : List Addr) (kvs : List (List Leaf × V)) (Pl : List Nat) (y6 : Option V), σ = [some (.ref t0), some (.ref f), some (.ref dn), some (.ref rn), some (.ref pn), some (.ref p), y6] ∧ St1 X.prog X.w H G dn rn R2 ts kvs ∧ BI st s0 R2 Pl (2 * n + i) ∧ R <+: R2 ∧ (∀ s ∈ R2, Rs s) ∧ GrAt G pn (Pw.pairsOf st R n) ∧ G p = some (.lst [v0, v1]) ∧ OptAt G v0 (st s false) ∧ OptAt G v1 (st s true))
        ⟨R, ts, kvs, Pl, y6, rfl, S.more sg, b, List.prefix_refl _, hR, GrAt.keep ⟨us, hu, hp⟩ (fun xs e => sg _ _ e) (fun b ys e => sg _ _ e), hg, o0, o1⟩ ?_ ?_ ?_⟩
      · rintro i σ G2 _ ⟨R2, ts2, kv2, Pl2, y6, _, _, _, _, _, _, h1, _⟩
        exact SqL.of h1
      · rintro i x σ G2 hx ⟨R2, ts2, kv2, Pl2, y6, rfl, S2, b2, hpre, hR2, gr, h1, p0, p1⟩
        have hi : i < 2 := (List.getElem?_eq_some_iff.mp hx).1
        have hn2 : n < R2.length := Nat.lt_of_lt_of_le hlt hpre.length_le
        have es2 : R2[n]? = some s := by
          obtain ⟨t, rfl⟩ := hpre
          rw [List.getElem?_append_left hlt]
          exact es
        have ox : OptAt G2 x (tgt st R2 (2 * n + i)) := by
          unfold tgt
          rw [show (2 * n + i) / 2 = n by omega, es2]
          show OptAt G2 x (st s ((2 * n + i) % 2 == 1))
          rcases (show i = 0 ∨ i = 1 by omega) with rfl | rfl
          · rw [show (2 * n + 0) % 2 = 0 by omega]
            cases hx
            exact p0
          · rw [show (2 * n + 1) % 2 = 1 by omega]
            cases hx
            exact p1
        rcases ox with ⟨rfl, eo⟩ | ⟨t2, s2, rfl, eo, ht2⟩
        · refine ⟨_, rfl, rfl, _, rfl, iteF (iteF ⟨R2, ts2, kv2, Pl2, _, rfl, S2, ?_, hpre, hR2, gr, h1, p0, p1⟩)⟩
          have := b2.old (by omega) fun g hgg => by rw [eo] at hgg; cases hgg
          exact this
        · obtain ⟨vs2, hv2, lf2⟩ := ht2.leaf
          refine ⟨_, rfl, rfl, _, rfl, iteT ⟨_, rfl, _, rfl, dn, _, rfl, ⟨kv2, _, t2, vs2, S2.dx, rfl, hv2, lf2, rfl⟩, _, rfl, ?_⟩⟩
          rw [S2.val]
          have h2R : R2.length ≤ 10000 := Nat.le_trans (nd_le R2 U b2.nd fun s hs => hin s (hR2 s hs)) hU
          have htl2 : ts2.length = R2.length := Paired.length S2.tr
          by_cases hm2 : s2 ∈ R2
          · rw [if_pos hm2]
            refine iteF ⟨R2, ts2, kv2, Pl2, _, rfl, S2, ?_, hpre, hR2, gr, h1, p0, p1⟩
            have := b2.old (by omega) fun g hgg => by
              rw [eo] at hgg
              rw [← Option.some.inj hgg]
              exact hm2
            exact this
          · rw [if_neg hm2]
            refine iteT ⟨_, rfl, rn, _, rfl, .inl (SqL.of S2.rl), _, rfl, _, rfl, dn, rfl, kv2, _, t2, vs2, S2.dx, ?_, rfl, hv2, lf2, fun ob2 dx2 => ?_⟩
            · have := S2.kl
              exact Nat.lt_of_le_of_lt this (smallB (by omega))
            rw [List.length_map, htl2] at dx2
            have rn2 : upd G2 dn ob2 rn = some (.lst (ts2.map V.ref)) := by
              rw [upd_ne (S2.dne S2.rl (.inl ⟨_, rfl⟩))]
              exact S2.rl
            refine ⟨_, rfl, .inl ⟨rfl, _, SqL.of rn2⟩, _, rfl, rn, _, _, rfl, rfl, rn2, ?_, ?_⟩
            · rw [List.length_map, htl2]
              exact smallB (by omega)
            have S3 := S2.put hm2 ht2 dx2
            have kp : ∀ b ys, G2 b = some (.tup ys) → upd (upd G2 dn ob2) rn (.lst (ts2.map V.ref ++ [.ref t2])) b = some (.tup ys) := fun b ys e => by
              rw [upd_ne (S2.rne e), upd_ne (S2.dne e (.inr ⟨_, rfl⟩))]
              exact e
            refine ⟨R2 ++ [s2], ts2 ++ [t2], _, Pl2 ++ [2 * n + i], _, rfl, S3, b2.new (by omega) eo hm2, hpre.trans (List.prefix_append _ _), fun s' hs' => ?_, gr.keep (fun xs e => ?_) kp, ?_, p0.keep kp, p1.keep kp⟩
            · rcases List.mem_append.mp hs' with z | z
              · exact hR2 s' z
              · rw [List.mem_singleton.mp z]
                unfold tgt at eo
                rw [show (2 * n + i) / 2 = n by omega, es2] at eo
                exact hcl s _ s2 (hR2 s (List.mem_of_getElem? es2)) eo
            · rw [upd_ne pr, upd_ne (S2.dne e (.inl ⟨_, rfl⟩))]
              exact e
            · rw [upd_ne prn, upd_ne pdn]
              exact h1
      · rintro σ G2 h
        exact h
    · rintro _ G2 ⟨R2, ts2, kv2, Pl2, y6, rfl, S2, b2, hpre, hR2, gr, h1, p0, p1⟩
      have hn2 : n < R2.length := Nat.lt_of_lt_of_le hlt hpre.length_le
      have es2 : R2[n]? = some s := by
        obtain ⟨t, rfl⟩ := hpre
        rw [List.getElem?_append_left hlt]
        exact es
      have inR : ∀ c g, st s c = some g → g ∈ R2 := fun c g e => by
        refine b2.all (edge n c) (by have := edge_lt (c := c) (Nat.lt_succ_self n); omega) g ?_
        unfold tgt
        rw [edge_div, edge_mod, es2]
        exact e
      obtain ⟨us2, hu2, hp2⟩ := id gr
      have hl2 : us2.length = n := (Paired.length hp2).trans (Pw.pairs_len hn)
      have h2R : R2.length ≤ 10000 := Nat.le_trans (nd_le R2 U b2.nd fun s hs => hin s (hR2 s hs)) hU
      refine ⟨_, rfl, .inl ⟨rfl, _, SqL.of hu2⟩, _, rfl, p, rfl, ⟨_, SqL.of h1⟩, fun D nD => ?_⟩
      refine lc_list (K := X.K) (a := p) (xs := [v0, v1]) (fun i G3 => Same G2 G3 ∧ G3 D = some (.lst ([oV ((st s false).map (posn R2)), oV ((st s true).map (posn R2))].take i))) ⟨same_new nD, upd_same⟩ (fun i G3 _ h => SqL.of (h.1 _ _ h1)) (fun i x G3 hx h => ?_) (fun G3 h => ?_)
      · obtain ⟨s3, h3⟩ := h
        have hi : i < 2 := (List.getElem?_eq_some_iff.mp hx).1
        obtain ⟨o, ox, om, ow⟩ : ∃ o, OptAt G2 x o ∧ (∀ g, o = some g → g ∈ R2) ∧ [oV ((st s false).map (posn R2)), oV ((st s true).map (posn R2))][i]? = some (oV (o.map (posn R2))) := by
          rcases (show i = 0 ∨ i = 1 by omega) with rfl | rfl
          · cases hx
            exact ⟨_, p0, inR false, rfl⟩
          · cases hx
            exact ⟨_, p1, inR true, rfl⟩
        have fin : ∀ y, y = oV (o.map (posn R2)) → ∃ acc, G3 D = some (.lst acc) ∧ acc.length < sizeLine ∧ (Same G2 (upd G3 D (.lst (acc ++ [y]))) ∧ upd G3 D (.lst (acc ++ [y])) D = some (.lst ([oV ((st s false).map (posn R2)), oV ((st s true).map (posn R2))].take (i + 1)))) := fun y ey => by
          refine ⟨_, h3, ?_, same_put s3 nD, ?_⟩
          · rw [List.length_take]
            exact Nat.lt_of_le_of_lt (Nat.min_le_right _ _) (by show 2 < sizeLine; decide)
          · rw [upd_same, List.take_add_one, ow, ey]
            rfl
        rcases ox with ⟨rfl, eo⟩ | ⟨t2, s2, rfl, eo, ht2⟩
        · exact ⟨rfl, _, rfl, rfl, _, rfl, iteT (fin .non (by rw [eo]; rfl))⟩
        · obtain ⟨vs2, hv2, lf2⟩ := ht2.leaf
          refine ⟨rfl, _, rfl, rfl, _, rfl, iteF ⟨_, rfl, _, rfl, dn, .int (posn R2 s2 : Nat), rfl, ⟨kv2, _, t2, vs2, S2.dx.same s3, rfl, s3 _ _ hv2, lf2, ?_⟩, fin _ (by rw [eo]; rfl)⟩⟩
          rw [S2.val, if_pos (om s2 eo)]
      · obtain ⟨s3, h3⟩ := h
        refine ⟨D, _, rfl, .inl ⟨SqL.of h3, fun T nT => ?_⟩⟩
        have s4 := s3.trans (same_new (o := .tup ([oV ((st s false).map (posn R2)), oV ((st s true).map (posn R2))].take 2)) nT)
        have hu4 := s4 _ _ hu2
        refine ⟨pn, _, _, rfl, rfl, hu4, ?_, R2, ts2, kv2, Pl2, _, _, rfl, ?_, b2, by omega, hR2, us2 ++ [T], ?_, ?_⟩
        · rw [List.length_map, hl2]
          exact smallB (by omega)
        · refine (S2.more s4).other (S2.dne hu2 (.inl ⟨_, rfl⟩)) pr hpn fun ys z => ?_
          rw [hu4] at z
          cases z
        · rw [upd_same, List.map_append]
          rfl
        · have e1 : Pw.pairsOf st R2 (n + 1) = Pw.pairsOf st R n ++ [((st s false).map (posn R2), (st s true).map (posn R2))] := by
            rw [← pairs_ext hpre hn (bi_take b hn)]
            unfold Pw.pairsOf
            rw [List.take_add_one, es2, List.map_append]
            rfl
          have kp : ∀ c ys, G2 c = some (.tup ys) → upd (upd G3 T (.tup ([oV ((st s false).map (posn R2)), oV ((st s true).map (posn R2))].take 2))) pn (.lst (us2.map V.ref ++ [.ref T])) c = some (.tup ys) := fun c ys e => by
            rw [upd_ne (fun z => by rw [z, hu2] at e; cases e)]
            exact s4 _ _ e
          rw [e1]
          refine Paired.snoc (Paired.mapP hp2 fun _ _ z => kp _ _ z) ?_
          have Tp : T ≠ pn := fun z => by
            rw [z, s3 _ _ hu2] at nT
            cases nT
          rw [upd_ne Tp, upd_same]
          rfl
  · rw [decide_eq_false (by omega)]
    have hnR : n = R.length := by omega
    subst hnR
    exact iteF ⟨_, rfl, hq R _ pn G b.done (by rw [Pw.pairs_len (Nat.le_refl _)]; exact hRU) S.sm hpn ⟨us, hu, hp⟩⟩
end
end K28

set_option Elab.async false
set_option linter.all false
set_option maxRecDepth 100000
set_option maxHeartbeats 4000000
namespace K28
open PySem PySem.Spec PyProof.Rows L2 Pw TL
section
open LamX NdefX
variable {P : Program} {w : World} {K : PySem.W.Frag} {mg : Str → Option Value} {base : Heap}
/-! lawful_pairs -/
abbrev sLP : Stmt := topS 31
abbrev nLP : List Str := ["rule", "pieces", "begun", "span"]
theorem scLP : FnScope nLP ["rule"] (defScope sLP) := ⟨rfl, rfl, rfl, by decide +kernel, rfl, by decide +kernel, by decide +kernel⟩
def TTX : V → (V → Hp → VK → Prop) → Hp → VK → Prop := fun v0 tl H Q => ∃ st Rs U, TTT st Rs U v0 tl H Q
theorem gives_numX {X : Cx} {g : Addr} {cdg : Value} {q : Str} (ml : X.mg "len" = none) (mt : X.mg "tuple" = none) : GivesP X nNB "numbered" (defScope sNB) g cdg (defBody sNB) "onward" q TTX := by
  intro f c' s H v0 Q tl k hr HA hco h
  obtain ⟨st, Rs, U, h⟩ := h
  exact gives_numT ml mt f c' s H v0 Q tl k hr HA hco h
def qLP : Str := "lawful_pairs" ++ ".<locals>." ++ "<lambda>"
abbrev nLL : List Str := ["trace", "pieces", "begun", "span", "sign"]
theorem ndLL : nLL.Nodup := by decide +kernel
theorem free_by {sc nsc : Scope} (h : (nsc.names.all fun y => !decide (y.2 = .free) || (decide (sc.names.lookup y.1 = some .cell) || decide (sc.names.lookup y.1 = some .free))) = true) : ∀ y ∈ nsc.names, y.2 = .free → sc.names.lookup y.1 = some .cell ∨ sc.names.lookup y.1 = some .free := fun y hy e => by
  have h1 := List.all_eq_true.mp h y hy
  rw [decide_eq_true e, Bool.or_eq_true, Bool.or_eq_true, decide_eq_true_iff, decide_eq_true_iff] at h1
  rcases h1 with z | z
  · cases z
  · exact z
def NewN (H : Hp) (p : Addr) : Prop := ∀ b o, H b = some o → (∀ ps, o ≠ .tbl ps) → b ≠ p
def spLP (R : Addr) (T : List (Addr × Str)) : Sp := fun vs H Q _ => ∃ (r p : Addr) (ys : List Str) (lo : Int) (hi sp : Option Int), vs = [.ref r] ∧ RuleAt H R r p ys lo hi sp ∧ RuleOk ys lo hi sp ∧ ys.length ≤ 10 ∧ (∀ s, sp = some s → s ≤ 4) ∧ Tabs T H ∧
  ∀ (p : Addr) (W : Gr) (G : Hp), ExtN H G → Tabs T G → NewN H p → RawOf (lawR ys lo hi sp) W → W.length ≤ 10000 → GrAt G p W → Q (.ref p) G
def keysT (kvs : List (Key × V)) : List (List Nat) := kvs.filterMap fun kv => match kv.1 with | .inl _ => none | .inr x => some (tl x)
theorem keysT_mem {kvs : List (Key × V)} {x : Str} : (valV kvs (.inr x)).isSome = true ↔ tl x ∈ keysT kvs := by
  rw [← valV_any, List.any_eq_true]
  unfold keysT
  rw [List.mem_filterMap]
  constructor
  · rintro ⟨kv, h1, h2⟩
    refine ⟨kv, h1, ?_⟩
    rw [of_decide_eq_true h2]
  · rintro ⟨⟨k, v⟩, h1, h2⟩
    cases k with
    | inl i => cases h2
    | inr y =>
      have h2 : some (tl y) = some (tl x) := h2
      refine ⟨_, h1, decide_eq_true ?_⟩
      show (Sum.inr y : Key) = .inr x
      rw [tl_eq (Option.some.inj h2)]
theorem bdict_of (kvs : List (Key × V)) : BDict kvs (keysT kvs) := fun _ => keysT_mem
theorem beg_of {kvs : List (Key × V)} {zs : List Str} (h : Begun kvs (begS zs)) : Beg (zs.map tl) (keysT kvs) := fun w => by
  have hw : tl (⟨w.toArray⟩ : Str) = w := rfl
  rw [← hw, ← keysT_mem, h]
  unfold begS
  rw [hw]
  constructor
  · rintro (z | ⟨p, h1, h2⟩)
    · exact .inl z
    · exact .inr ⟨_, List.mem_map.mpr ⟨p, h1, rfl⟩, h2⟩
  · rintro (z | ⟨p, h1, h2⟩)
    · exact .inl z
    · obtain ⟨q, h3, rfl⟩ := List.mem_map.mp h1
      exact .inr ⟨q, h3, h2⟩
theorem trU_len (B : List (List Nat)) (wd : Option Int) : (trU B wd).length = B.length * ((spanN wd + 1) * (spanN wd + 1)) := by
  unfold trU swU
  rw [List.length_flatMap]
  simp only [List.length_map, List.length_flatMap, List.length_range]
  rw [List.map_const', List.sum_replicate_nat, List.map_const', List.sum_replicate_nat, List.length_range]
theorem pcs_of {ys zs : List Str} {lo : Int} {hi sp : Option Int} (h : RuleOk ys lo hi sp) (h10 : ys.length ≤ 10) (e : zs.map tl = piecesL ys lo hi) : Pcs zs := by
  have l3 := h.lo3
  refine ⟨?_, fun z hz => ?_⟩
  · have e2 := congrArg List.length e
    rw [List.length_map, piecesL_eq, List.length_append, List.length_append, List.length_map, List.length_map, List.length_range] at e2
    have : (longP hi).length ≤ 1 := by
      cases hi with
      | none => exact Nat.zero_le _
      | some h => exact Nat.le_refl _
    omega
  · have hm : tl z ∈ piecesL ys lo hi := by
      rw [← e]
      exact List.mem_map.mpr ⟨z, hz, rfl⟩
    rw [piecesL_eq] at hm
    rcases List.mem_append.mp hm with hm | hm
    · rcases List.mem_append.mp hm with hm | hm
      · obtain ⟨y, h1, h2⟩ := List.mem_map.mp hm
        have := h.five y h1
        rw [← h2]
        omega
      · obtain ⟨m, h1, h2⟩ := List.mem_map.mp hm
        have := List.mem_range.mp h1
        rw [← h2]
        show (49 :: (zerosL m ++ [49])).length ≤ 10
        rw [List.length_cons, List.length_append, zerosL, List.length_replicate]
        show m + 1 + 1 ≤ 10
        omega
    · cases hi with
      | none => cases hm
      | some k =>
        have h7 := h.hi k rfl
        rw [List.mem_singleton.mp hm, zerosL, List.length_replicate]
        omega
theorem sw_nil (sp : Option Int) : sw sp [] = (0, 0) := by cases sp <;> rfl
theorem ok_lp {f fN c Pt R fB fG fS fT : Addr} {fdB fdG fdS fdT : FuncData} {T : List (Addr × Str)} {dV kV doc pm ct oc dV' kV' doc' pm' cdn ct' oc' : Value} {an od an' od' : Option Addr} {osl osl' : Array (Option Value)}
    (lk : K.lookup f = some ⟨oc, od, .func (PySem.W.fnOf "lawful_pairs" "lawful_pairs" (defArgs sLP) (defBody sLP) (defScope sLP) dV kV doc pm an (.ref c) ct), osl⟩) (hcd : PySem.W.codeIn K (.ref c) "lawful_pairs" = true)
    (lkN : K.lookup fN = some ⟨oc', od', .func (PySem.W.fnOf "numbered" "numbered" (defArgs sNB) (defBody sNB) (defScope sNB) dV' kV' doc' pm' an' cdn ct'), osl'⟩) (hcN : PySem.W.codeIn K cdn "numbered" = true) (mN : mg "numbered" = some (.ref fN)) (kN : PySem.W.keepIn K (.ref fN) = true)
    (bN : Binds K (PySem.W.fnOf "numbered" "numbered" (defArgs sNB) (defBody sNB) (defScope sNB) dV' kV' doc' pm' an' cdn ct') ["start", "onward"] [])
    (TB : TabB base mg c Pt) (hT : (Pt, qLP) ∈ T) (hu : ∀ p ∈ T, p.1 = Pt → p.2 = qLP) (ml : mg "len" = none) (mt : mg "tuple" = none)
    (GB : FnOk P w K mg base CX0 1 fB fdB ["self"] (spBP R)) (bm : Meth K R "barred_pieces" fB) (bb : Binds K fdB ["self"] [])
    (GG : FnOk P w K mg base CX0 1 fG fdG ["pieces"] spBG) (gm : mg "beginnings" = some (.ref fG)) (gk : PySem.W.keepIn K (.ref fG) = true) (gb : Binds K fdG ["pieces"] [])
    (GS : FnOk P w K mg base CX0 1 fS fdS ["self"] (spMO R fun _ _ sp => vI sp)) (sm : Meth K R "span" fS) (sb : Binds K fdS ["self"] [])
    (GT : FnOk P w K mg base CX0 2 fT fdT pTA spTA) (tm : mg "trace_after" = some (.ref fT)) (tk : PySem.W.keepIn K (.ref fT) = true) (tb : Binds K fdT pTA []) (Rc : RuleC K R) :
    FnOk P w K mg base CX0 5 f (PySem.W.fnOf "lawful_pairs" "lawful_pairs" (defArgs sLP) (defBody sLP) (defScope sLP) dV kV doc pm an (.ref c) ct) ["rule"] (spLP R T) := by
  refine fn_of lk hcd scLP (fun vs H Q E h => ?_) (fun A outer s H vs Q E hr h => ?_)
  · obtain ⟨r, p, ys, lo, hi, sp, rfl, _⟩ := h
    rfl
  · obtain ⟨r, p, ys, lo, hi, sp, rfl, hR, hok, h10, h4, hTab, q⟩ := h
    have r1 : Room 1 _ := hr.mono (by decide)
    suffices hh : ∃ t, PSs (cxOf CX0 P w K mg base nLP "lawful_pairs" (defScope sLP) f (.ref c) A outer s H E).nox (defBody sLP) t ∧ t { nx := fun _ H' => Q .non H', rt := Q } (L2.start nLP [.ref r]) H by
      obtain ⟨t, h1, h2⟩ := hh
      exact ⟨t, h1.nox, h2⟩
    refine ⟨_, pss_cons (ps_set (i := 1) scLP.nd rfl (.inr rfl) (pe_meth0 (pv 0) Rc.c bm GB r1 bb .nil pass0))
      (pss_cons (ps_set (i := 2) scLP.nd rfl (.inr rfl) (pe_call GG r1 rfl gm gk gb .nil pass0 (pa_cons (pv 1) pa_nil)))
      (pss_cons (ps_set (i := 3) scLP.nd rfl (.inr rfl) (pe_meth0 (pv 0) Rc.c sm GS r1 sb .nil pass0))
      (pss_one (ps_ret (pe_lamC (k := 2) (b := "trace") (N := nLL) (fr := ["pieces", "begun", "span"]) (js := [1, 2, 3]) (T := T) rfl mN kN lkN hcN bN scNB rfl (.inl rfl) (gives_numX ml mt) TB rfl hT hu hr
        ⟨rfl, rfl, rfl, by decide +kernel, rfl, rfl, by decide +kernel, by decide +kernel, by decide +kernel, (fun _ _ => rfl), (fun _ => rfl)⟩ (free_by (sc := defScope sLP) (by decide +kernel)) (by decide +kernel) rfl rfl (fun _ _ _ _ _ _ => rfl) (pe_tup (pa_cons pe_str (pa_cons pe_int (pa_cons pe_int pa_nil)))) rfl
        (fun A2 o2 s2 H2 f2 c2 hr2 => pe_lc (own := [("sign", 4)]) (g := gName 4) (tt := tYes) rfl ndLL (pi_str pe_str)
          (blkOk_by (N := nLL) (by rfl)) (fun _ _ _ _ _ => pg_name (i := 4) ndLL rfl (Or.inl rfl)) (fun _ _ _ _ _ => pts_nil)
          (fun _ _ _ _ _ => pe_call GT hr2 rfl tm tk tb .nil pass0 (pa_cons (pv 0) (pa_cons (pv 4) (pa_cons (pv 1) (pa_cons (pv 2) (pa_cons (pv 3) pa_nil)))))))))))), ?_⟩
    obtain ⟨dx, h1, h2⟩ := id hR
    have bnd : Bnd lo hi := ⟨hok.lo0, hok.lo3, fun h e => (hok.hi h e).1, fun h e => (hok.hi h e).2⟩
    refine ⟨.ref r, rfl, r, dx, _, rfl, h1, rfl, r, p, ys, lo, hi, sp, rfl, hR, bnd, by omega, fun l zs H1 s1 nl hl hz => ?_⟩
    have pcs := pcs_of hok h10 hz
    refine ⟨_, rfl, l, zs, rfl, hl, pcs, fun d kvs H2 s2 nd hd hb hk => ?_⟩
    have s12 := s1.trans s2
    refine ⟨.ref r, rfl, r, dx, _, rfl, s12 _ _ h1, rfl, r, p, ys, lo, hi, sp, rfl, hR.same s12, ?_⟩
    refine ⟨by show 3 ≤ sizeLine; decide, fun t0 nt0 => ⟨(hTab.ext s12).ext (same_new nt0), fun H3 e3 T3 => ?_⟩⟩
    have hB : Beg (piecesL ys lo hi) (keysT kvs) := by
      rw [← hz]
      exact beg_of hb
    have up : ∀ b o, H2 b = some o → (∀ ps, o ≠ .tbl ps) → H3 b = some o := fun b o e n => e3 b o (same_new nt0 _ _ e) n
    have hl3 : H3 l = some (.lst (zs.map V.str)) := up _ _ (s2 _ _ hl) (fun _ z => nomatch z)
    have hd3 : H3 d = some (.dK kvs) := up _ _ hd (fun _ z => nomatch z)
    have ht3 : H3 t0 = some (.tup [.str (Str.ofString ""), .int 0, .int 0]) := e3 _ _ upd_same (fun _ z => nomatch z)
    refine ⟨stPb (piecesL ys lo hi) (keysT kvs) sp, fun tr => ∃ x, lawR ys lo hi sp x = true ∧ tr = tauP (keysT kvs) sp (rwS x), trU (keysT kvs) sp, t0, tauP (keysT kvs) sp [], rfl, ⟨_, by unfold tauP; rw [sw_nil]; exact ht3, rfl⟩, ⟨[], hok.nil, rfl⟩, ?_, ?_, ?_, ?_, ?_⟩
    · rw [trU_len]
      have a1 : (keysT kvs).length ≤ 201 := Nat.le_trans (List.length_filterMap_le _ _) hk
      have a2 : spanN sp + 1 ≤ 5 := by
        cases sp with
        | none => decide
        | some v =>
          have := h4 v rfl
          show v.toNat + 1 ≤ 5
          omega
      exact Nat.le_trans (Nat.mul_le_mul a1 (Nat.mul_le_mul a2 a2)) (by decide)
    · rintro tr ⟨x, hx, rfl⟩
      exact tr_mem hB ((hok.ok (rw_pure x)).mp hx)
    · rintro tr c tr' ⟨x, hx, rfl⟩ e
      rw [hok.stepP hB x c hx] at e
      by_cases hl2 : lawR ys lo hi sp (x ++ [c]) = true
      · rw [if_pos hl2] at e
        exact ⟨_, hl2, (Option.some.inj e).symm⟩
      · rw [if_neg hl2] at e
        cases e
    · rintro G t tr Q' sG hts ⟨x, hx, rfl⟩ hq
      have short : (tauP (keysT kvs) sp (rwS x)).1.length ≤ 50 := by
        show (lend (keysT kvs) (rwS x)).length ≤ 50
        rcases (lend_spec (keysT kvs) (rwS x)).2.1 with e | e
        · rw [e]
          exact Nat.zero_le _
        · rcases (hB _).mp e with z | ⟨pc, hp, h5, h6⟩
          · rw [z]
            exact Nat.zero_le _
          · rw [← hz] at hp
            obtain ⟨zz, h7, h8⟩ := List.mem_map.mp hp
            have := pcs.short zz h7
            rw [← h8] at h6
            omega
      refine ⟨Str.ofString "01", rfl, fun D nD => ?_⟩
      refine lc_str (z := Str.ofString "01") (fun i G1 => ∃ vs, Same G G1 ∧ G1 D = some (.lst vs) ∧ vs.length = i ∧ ∀ j v, vs[j]? = some v → OptAt G1 v (stPb (piecesL ys lo hi) (keysT kvs) sp (tauP (keysT kvs) sp (rwS x)) (j == 1))) ⟨[], same_new nD, upd_same, rfl, fun j v e => nomatch e⟩ (fun i c G1 hc h => ?_) (fun G1 h => ?_)
      · obtain ⟨vs, sg, hg, hlen, ho⟩ := h
        have hci : i < 2 ∧ c = sgn (i == 1) := by
          match i, hc with
          | 0, hc => exact ⟨by decide, (Option.some.inj hc).symm⟩
          | 1, hc => exact ⟨by decide, (Option.some.inj hc).symm⟩
        obtain ⟨hi2, rfl⟩ := hci
        have sGG := sG.trans sg
        have fin : ∀ (v : V) (G2 : Hp), Same G1 G2 → OptAt G2 v (stPb (piecesL ys lo hi) (keysT kvs) sp (tauP (keysT kvs) sp (rwS x)) (i == 1)) → ∃ acc, G2 D = some (.lst acc) ∧ acc.length < sizeLine ∧ ∃ vs, Same G (upd G2 D (.lst (acc ++ [v]))) ∧ upd G2 D (.lst (acc ++ [v])) D = some (.lst vs) ∧ vs.length = i + 1 ∧ ∀ j v', vs[j]? = some v' → OptAt (upd G2 D (.lst (acc ++ [v]))) v' (stPb (piecesL ys lo hi) (keysT kvs) sp (tauP (keysT kvs) sp (rwS x)) (j == 1)) := fun v G2 sg2 ov => by
          have hg2 := sg2 _ _ hg
          have kp : ∀ b zs, G2 b = some (.tup zs) → upd G2 D (.lst (vs ++ [v])) b = some (.tup zs) := fun b zs e => by
            rw [upd_ne (fun z => by rw [z, hg2] at e; cases e)]
            exact e
          refine ⟨vs, hg2, by rw [hlen]; exact smallB (by omega), vs ++ [v], same_put (sg.trans sg2) nD, upd_same, by rw [List.length_append, hlen]; rfl, fun j v' e => ?_⟩
          by_cases hj : j < vs.length
          · rw [List.getElem?_append_left hj] at e
            exact ((ho j v' e).keep fun b zs e => sg2 _ _ e).keep kp
          · rw [List.getElem?_append_right (by omega)] at e
            have hj0 : j - vs.length = 0 := by
              apply Decidable.byContradiction
              intro hne
              rw [List.getElem?_eq_none (by show 1 ≤ _; omega)] at e
              cases e
            rw [hj0] at e
            obtain rfl : v = v' := Option.some.inj e
            rw [show j = i by omega]
            exact ov.keep kp
        refine ⟨rfl, _, rfl, _, rfl, _, rfl, _, rfl, _, rfl, t, l, d, tauP (keysT kvs) sp (rwS x), sgn (i == 1), zs, kvs, keysT kvs, sp, rfl, hts.same sg, short, sGG _ _ hl3, pcs, sGG _ _ hd3, bdict_of kvs, fun e G2 sg2 => ?_, fun tr' e T G2 sg2 nT hT => ?_⟩
        · rw [hz] at e
          exact fin .non G2 sg2 (.inl ⟨rfl, e⟩)
        · rw [hz] at e
          exact fin (.ref T) G2 sg2 (.inr ⟨T, tr', rfl, e, hT⟩)
      · obtain ⟨vs, sg, hg, hlen, ho⟩ := h
        have hlen : vs.length = 2 := hlen
        match vs, hlen, hg, ho with
        | [v0, v1], _, hg, ho => exact hq D v0 v1 G1 sg nD hg (ho 0 v0 rfl) (ho 1 v1 rfl)
    · intro R2 W2 p2 G d2 hW sG np hg
      refine q p2 W2 G (fun b o e n => sG _ _ (up b o (s12 _ _ e) n)) (T3.ext sG) (fun b o e n z => ?_) (hok.rawP hB d2) hW hg
      have := up b o (s12 _ _ e) n
      rw [z, np] at this
      cases this
end
end K28

set_option Elab.async false
set_option linter.all false
set_option maxRecDepth 100000
set_option maxHeartbeats 4000000
namespace K28
open PySem PySem.Spec PyProof.Rows L2 Pw TL
section
variable {P : Program} {w : World} {K : PySem.W.Frag} {mg : Str → Option Value} {base : Heap}
/-! graphs as data -/
def oD : Option Nat → PyData
  | none => .none
  | some n => .int (n : Nat)
def prD (p : Pr) : PyData := .tuple [oD p.1, oD p.2]
def grD (W : Gr) : PyData := .list (W.map prD)
theorem dp_o {H : Hp} (o : Option Nat) : Dp K H (oV o) (oD o) := by
  cases o with
  | none => exact .non
  | some n => exact .int _
theorem dp_pr {H : Hp} {t : Addr} {p : Pr} (h : H t = some (.tup [oV p.1, oV p.2])) : Dp K H (.ref t) (prD p) := .tup (SqT.of h) (.cons (dp_o _) (.cons (dp_o _) .nil))
theorem dp_prs {H : Hp} : ∀ {ts : List Addr} {W : Gr}, Paired (fun t (pr : Pr) => H t = some (.tup [oV pr.1, oV pr.2])) ts W → DpAll K H (ts.map V.ref) (W.map prD)
  | _, _, .nil => .nil
  | _, _, .cons h t => .cons (dp_pr h) (dp_prs t)
theorem dp_gr {H : Hp} {p : Addr} {W : Gr} (h : GrAt H p W) : Dp K H (.ref p) (grD W) := let ⟨_, a, b⟩ := h; .lst (SqL.of a) (dp_prs b)
theorem lay_o (o : Option Nat) : (oD o).canLay0 = true := by cases o <;> rfl
theorem dep_o (o : Option Nat) : (oD o).depth = 0 := by cases o <;> rfl
theorem lay_pr (p : Pr) : (prD p).canLay0 = true := by
  show ((oD p.1).canLay0 && ((oD p.2).canLay0 && true)) = true
  rw [lay_o, lay_o]
  rfl
theorem dep_pr (p : Pr) : (prD p).depth ≤ 1 := by
  show PyData.depthAll [oD p.1, oD p.2] + 1 ≤ 1
  simp only [PyData.depthAll, dep_o]
  decide
theorem shaped_pr (p : Pr) : SeqAt.shaped (prD p) = true := by
  unfold SeqAt.shaped
  rw [lay_pr, decide_eq_true (Nat.le_trans (dep_pr p) (by decide))]
  rfl
theorem shaped_gr (W : Gr) : SeqAt.shaped (grD W) = true := by
  have h1 : PyData.canLayAll0 (W.map prD) = true := by
    induction W with
    | nil => rfl
    | cons p r ih =>
      show ((prD p).canLay0 && PyData.canLayAll0 (r.map prD)) = true
      rw [lay_pr, ih]
      rfl
  have h2 : PyData.depthAll (W.map prD) ≤ 1 := by
    induction W with
    | nil => exact Nat.zero_le _
    | cons p r ih =>
      have ih := ih (by
        have : ((prD p).canLay0 && PyData.canLayAll0 (r.map prD)) = true := h1
        rw [lay_pr] at this
        exact this)
      rw [List.map_cons]
      simp only [PyData.depthAll]
      have := dep_pr p
      omega
  unfold SeqAt.shaped
  show (PyData.canLayAll0 (W.map prD) && decide (PyData.depthAll (W.map prD) + 1 ≤ 64)) = true
  rw [h1, decide_eq_true (by omega)]
  rfl
theorem eqv_o (a b : Option Nat) : PyData.eqv (oD a) (oD b) = decide (a = b) := by
  cases a with
  | none => cases b <;> rfl
  | some m =>
    cases b with
    | none => rfl
    | some n =>
      show (((m : Nat) : Int) == ((n : Nat) : Int)) = _
      rw [Bool.eq_iff_iff, beq_iff_eq, decide_eq_true_iff]
      exact ⟨fun e => by rw [Int.ofNat.inj e], fun e => by rw [Option.some.inj e]⟩
theorem eqv_pr (a b : Pr) : PyData.eqv (prD a) (prD b) = decide (a = b) := by
  show (PyData.eqv (oD a.1) (oD b.1) && (PyData.eqv (oD a.2) (oD b.2) && true)) = _
  rw [eqv_o, eqv_o, Bool.and_true, Bool.eq_iff_iff, Bool.and_eq_true, decide_eq_true_iff, decide_eq_true_iff, decide_eq_true_iff]
  exact ⟨fun h => Prod.ext h.1 h.2, fun h => by rw [h]; exact ⟨rfl, rfl⟩⟩
theorem eqv_gr : ∀ (a b : Gr), PyData.eqv (grD a) (grD b) = decide (a = b)
  | [], [] => rfl
  | [], _ :: _ => rfl
  | _ :: _, [] => rfl
  | p :: r, q :: t => by
    show (PyData.eqv (prD p) (prD q) && PyData.eqvAll (r.map prD) (t.map prD)) = _
    have ih : PyData.eqvAll (r.map prD) (t.map prD) = decide (r = t) := eqv_gr r t
    rw [eqv_pr, ih, Bool.eq_iff_iff, Bool.and_eq_true, decide_eq_true_iff, decide_eq_true_iff, decide_eq_true_iff]
    exact ⟨fun h => by rw [h.1, h.2], fun h => List.cons.inj h⟩
def rTupO (K : PySem.W.Frag) : List V → Hp → VK → Prop := fun xs H Q => ∃ p ys, xs = [.ref p] ∧ ((SqL K H p ys ∧ ∀ l, H l = none → Q (.ref l) (upd H l (.tup ys))) ∨ (SqT K H p ys ∧ Q (.ref p) H))
/-! without_dead_ends -/
abbrev sWD2 : Stmt := topS 32
abbrev nWD2 : List Str := ["pairs", "kept", "cut", "pair", "goal"]
theorem scWD2 : FnScope nWD2 ["pairs"] (defScope sWD2) := ⟨rfl, rfl, rfl, by decide +kernel, rfl, by decide +kernel, by decide +kernel⟩
/-- a tuple that the module holds -/
def TupN (K : PySem.W.Frag) (mg : Str → Option Value) (x : Str) (vs : List V) : Prop := ∃ a, mg x = some (.ref a) ∧ ∀ H, SqT K H a vs
def spWE : Sp := fun vs H Q _ => ∃ (p : Addr) (W : Gr), vs = [.ref p] ∧ GrAt H p W ∧ Closed W ∧ W.length ≤ 10000 ∧ ∀ (n : Nat) (p' : Addr) H', Same H H' → GrAt H' p' (cutN W n) → cutG (cutN W n) = cutN W n → Q (.ref p') H'
theorem ok_we {f : Addr} {fd : FuncData} {k : Nat} (F : Fun K "without_dead_ends" "without_dead_ends" sWD2 f fd) (mt : mg "tuple" = none) (D : TupN K mg "DEAD_END" [.non, .non]) : FnOk P w K mg base CX0 (k + 1) f fd ["pairs"] spWE := by
  obtain ⟨aD, mD, hD⟩ := D
  refine F.ok scWD2 (fun vs H Q E h => ?_) (fun cdv A outer s H vs Q E hr h => ?_)
  · obtain ⟨p, W, rfl, _⟩ := h
    rfl
  · obtain ⟨p, W, rfl, hg, hc, hW, q⟩ := h
    refine ⟨_, pss_cons (ps_set (i := 1) scWD2.nd rfl (.inr rfl) (pv 0))
      (pss_one (ps_while PassesOwn.never (pt_val pe_bl)
        (pss_cons (ps_setLc (i := 2) (own := [("pair", 3)]) (g := gName 3) rfl scWD2.nd rfl rfl (sw_true rfl rfl rfl (by decide +kernel)) (pi_list (pv 1))
          (blkOk_by (N := nWD2) (sc := defScope sWD2) (by decide +kernel)) (fun _ _ _ _ _ => pg_name (i := 3) scWD2.nd rfl (Or.inl rfl)) (fun _ _ _ _ _ => pts_nil)
          (fun _ _ _ _ _ => pe_callTy (T := "tuple") (r := rTupO K) call_tuple_of (by rfl) mt (by decide +kernel) (pa_cons (pe_lc (own := [("goal", 4)]) (wi := iTup K (tVar 3)) (g := gName 4) (tt := tYes) rfl scWD2.nd (pi_tup (pv 3))
            (blkOk_by (N := nWD2) (by rfl)) (fun _ _ _ _ _ => pg_name (i := 4) scWD2.nd rfl (Or.inl rfl)) (fun _ _ _ _ _ => pts_nil)
            (fun _ _ _ _ _ => pe_ifExp (PW.pt (pw_or (pt_cmpR op_isN (pv 4) pe_non (nomark _)) (pw_or1 (pt_cmpR (r := rEqD K) (op_eqD hr.units) (pe_ix (r := rIxL K) ix_list (pv 1) (pv 4) (fun _ _ => rfl)) (pe_glob (v := .ref aD) rfl mD rfl) (nomark _))))) pe_non (pv 4))) pa_nil)))
        (pss_cons (ps_if (pt_cmpR (op_eqD hr.units) (pv 2) (pv 1) (nomark _)) (pss_one (ps_ret (pv 1))) pss_nil)
        (pss_one (ps_set (i := 1) scWD2.nd rfl (.inr rfl) (pv 2))))))), ?_⟩
    refine ⟨_, rfl, fun m σ G => ∃ (n : Nat) (p' : Addr) (y : Option V), σ = [some (.ref p), some (.ref p'), y, none, none] ∧ Same H G ∧ GrAt G p' (cutN W n) ∧ m = goals (cutN W n), ⟨_, 0, p, none, rfl, fun _ _ e => e, hg, rfl⟩, ?_⟩
    rintro m σ G ⟨n, p', y, rfl, sG, hgr, rfl⟩
    have hcV : Closed (cutN W n) := by
      clear hgr
      induction n with
      | zero => exact hc
      | succ n ih => exact cut_closed ih
    have hlV : (cutN W n).length ≤ 10000 := by
      rw [cutN_len]
      exact hW
    have e1 : cutN W (n + 1) = cutG (cutN W n) := rfl
    generalize hV : cutN W n = C at *
    obtain ⟨ts, hts, hpr⟩ := id hgr
    have htl : ts.length = C.length := Paired.length hpr
    refine ⟨_, rfl, iteT ⟨fun σ G' => ∃ (p2 : Addr) (y : Option V), σ = [some (.ref p), some (.ref p2), y, none, none] ∧ Same H G' ∧ GrAt G' p2 (cutG C) ∧ cutG C ≠ C, ?_, ?_⟩⟩
    · rintro σ' G' ⟨p2, y2, h1, h2, h3, h4⟩
      refine ⟨goals (cutG C), ?_, n + 1, p2, y2, h1, h2, by rw [e1]; exact h3, by rw [e1]⟩
      have := goals_cut C
      have h5 : goals (cutG C) ≠ goals C := fun z => h4 (this.2 z)
      have := this.1
      omega
    · refine ⟨_, rfl, p', rfl, ⟨_, SqL.of hts⟩, fun D nD => ?_⟩
      refine lc_list (K := K) (a := p') (xs := ts.map V.ref) (fun i G1 => ∃ us : List Addr, Same G G1 ∧ G1 D = some (.lst (us.map V.ref)) ∧ Paired (fun t (pr : Pr) => G1 t = some (.tup [oV pr.1, oV pr.2])) us ((cutG C).take i)) ⟨[], same_new nD, upd_same, .nil⟩ (fun i G1 _ ⟨us, sg, _⟩ => SqL.of (sg _ _ hts)) (fun i x G1 hx h => ?_) (fun G1 h => ?_)
      · obtain ⟨us, sg, hg1, hp1⟩ := h
        rw [List.getElem?_map] at hx
        cases et : ts[i]? with
        | none =>
          rw [et] at hx
          cases hx
        | some t =>
          rw [et] at hx
          obtain rfl : V.ref t = x := Option.some.inj hx
          have hi : i < C.length := by
            rw [← htl]
            exact (List.getElem?_eq_some_iff.mp et).1
          have ec : C[i]? = some C[i] := List.getElem?_eq_getElem hi
          have htt := paired_get hpr et ec
          generalize C[i] = pr at ec htt
          have hus : us.length = i := by
            have := Paired.length hp1
            rw [List.length_take, cut_len] at this
            omega
          have sq : SqT K G1 t [oV pr.1, oV pr.2] := SqT.of (sg _ _ htt)
          refine ⟨rfl, _, rfl, t, rfl, ⟨_, sq⟩, fun D2 nD2 => ?_⟩
          refine lc_tup (K := K) (a := t) (xs := [oV pr.1, oV pr.2]) (fun j G2 => Same G1 G2 ∧ G2 D2 = some (.lst ([oV (cutO C pr.1), oV (cutO C pr.2)].take j))) ⟨same_new nD2, upd_same⟩ (fun j G2 _ h => SqT.of (h.1 _ _ (sg _ _ htt))) (fun j v G2 hv h => ?_) (fun G2 h => ?_)
          · obtain ⟨s2, h2⟩ := h
            have hj : j < 2 := (List.getElem?_eq_some_iff.mp hv).1
            obtain ⟨o, rfl, eo, ow⟩ : ∃ o, v = oV o ∧ (∀ g, o = some g → g < C.length) ∧ [oV (cutO C pr.1), oV (cutO C pr.2)][j]? = some (oV (cutO C o)) := by
              have cl : ∀ b g, pick pr b = some g → g < C.length := fun b g e => hcV i b g (by unfold goG; rw [ec]; exact e)
              rcases (show j = 0 ∨ j = 1 by omega) with rfl | rfl
              · cases hv
                exact ⟨_, rfl, cl false, rfl⟩
              · cases hv
                exact ⟨_, rfl, cl true, rfl⟩
            have fin : ∀ y, y = oV (cutO C o) → ∃ acc, G2 D2 = some (.lst acc) ∧ acc.length < sizeLine ∧ (Same G1 (upd G2 D2 (.lst (acc ++ [y]))) ∧ upd G2 D2 (.lst (acc ++ [y])) D2 = some (.lst ([oV (cutO C pr.1), oV (cutO C pr.2)].take (j + 1)))) := fun y ey => by
              refine ⟨_, h2, ?_, same_put s2 nD2, ?_⟩
              · rw [List.length_take]
                exact Nat.lt_of_le_of_lt (Nat.min_le_right _ _) (by show 2 < sizeLine; decide)
              · rw [upd_same, List.take_add_one, ow, ey]
                rfl
            cases o with
            | none => exact ⟨rfl, _, rfl, rfl, _, rfl, iteT (iteT (fin .non rfl))⟩
            | some g =>
              have hgl := eo g rfl
              have s02 := sg.trans s2
              have eg : C[g]? = some C[g] := List.getElem?_eq_getElem hgl
              have etg : ts[g]? = some ts[g] := List.getElem?_eq_getElem (by omega)
              have htg := paired_get hpr etg eg
              refine ⟨rfl, _, rfl, rfl, _, rfl, iteF ⟨_, rfl, _, rfl, p', _, _, .ref ts[g], rfl, rfl, SqL.of (s02 _ _ hts), atI_nat (by rw [List.getElem?_map, etg]; rfl), prD C[g], prD dead, dp_pr (s02 _ _ htg), .tup (hD _) (.cons .non (.cons .non .nil)), shaped_pr _, shaped_pr _, _, rfl, ?_⟩⟩
              rw [eqv_pr]
              by_cases hdd : C[g] = dead
              · rw [decide_eq_true hdd]
                refine iteT (fin .non ?_)
                show _ = oV (if C[g]? = some dead then none else some g)
                rw [if_pos (by rw [eg, hdd])]
                rfl
              · rw [decide_eq_false hdd]
                refine iteF ⟨_, rfl, fin _ ?_⟩
                show _ = oV (if C[g]? = some dead then none else some g)
                rw [if_neg (fun z => hdd (Option.some.inj (eg.symm.trans z)))]
          · obtain ⟨s2, h2⟩ := h
            refine ⟨D2, _, rfl, .inl ⟨SqL.of h2, fun T nT => ?_⟩⟩
            have s3 := s2.trans (same_new (o := .tup ([oV (cutO C pr.1), oV (cutO C pr.2)].take 2)) nT)
            refine ⟨_, s3 _ _ hg1, ?_, us ++ [T], same_put (sg.trans s3) nD, ?_, ?_⟩
            · rw [List.length_map, hus]
              exact smallB (by omega)
            · rw [upd_same, List.map_append]
              rfl
            · have kp : ∀ c zs, G1 c = some (.tup zs) → upd (upd G2 T (.tup ([oV (cutO C pr.1), oV (cutO C pr.2)].take 2))) D (.lst (us.map V.ref ++ [.ref T])) c = some (.tup zs) := fun c zs e => by
                rw [upd_ne (fun z => by rw [z, hg1] at e; cases e)]
                exact s3 _ _ e
              have ec2 : (cutG C)[i]? = some (cutO C pr.1, cutO C pr.2) := by
                unfold cutG
                rw [List.getElem?_map, ec]
                rfl
              rw [List.take_add_one, ec2]
              refine Paired.snoc (Paired.mapP hp1 fun _ _ z => kp _ _ z) ?_
              have TD : T ≠ D := fun z => by
                rw [z, s2 _ _ hg1] at nT
                cases nT
              rw [upd_ne TD, upd_same]
              rfl
      · obtain ⟨us, sg, hg1, hp1⟩ := h
        rw [List.length_map, htl, ← cut_len C, List.take_length] at hp1
        refine ⟨_, rfl, _, rfl, grD (cutG C), grD C, dp_gr ⟨us, hg1, hp1⟩, dp_gr (hgr.keep (fun xs e => sg _ _ e) fun b ys e => sg _ _ e), shaped_gr _, shaped_gr _, _, rfl, ?_⟩
        rw [eqv_gr]
        by_cases hcc : cutG C = C
        · rw [decide_eq_true hcc]
          refine iteT ⟨_, rfl, q n p' G1 (sG.trans sg) ?_ ?_⟩
          · rw [hV]
            exact hgr.keep (fun xs e => sg _ _ e) fun b ys e => sg _ _ e
          · rw [hV]
            exact hcc
        · rw [decide_eq_false hcc]
          exact iteF ⟨_, rfl, D, _, rfl, sG.trans sg, ⟨us, hg1, hp1⟩, hcc⟩
end
end K28

set_option Elab.async false
set_option linter.all false
set_option maxRecDepth 100000
set_option maxHeartbeats 4000000
namespace K28
open PySem PySem.Spec PyProof.Rows L2 Pw TL
section
variable {P : Program} {w : World} {K : PySem.W.Frag} {mg : Str → Option Value} {base : Heap}
/-! like_groups -/
abbrev sLG2 : Stmt := topS 33
abbrev nLG2 : List Str := ["pairs", "groups", "many", "names", "finer", "pair", "told", "goal"]
theorem scLG2 : FnScope nLG2 ["pairs"] (defScope sLG2) := ⟨rfl, rfl, rfl, by decide +kernel, rfl, by decide +kernel, by decide +kernel⟩
def numsV (f : Nat → Nat) (n : Nat) : List V := (List.range n).map fun i => V.int (f i : Nat)
theorem numsV_len (f : Nat → Nat) (n : Nat) : (numsV f n).length = n := by simp [numsV]
theorem numsV_get (f : Nat → Nat) {n i : Nat} (h : i < n) : (numsV f n)[i]? = some (.int (f i : Nat)) := by
  unfold numsV
  rw [List.getElem?_map, List.getElem?_range h]
  rfl
theorem numsV_snoc (f : Nat → Nat) (n : Nat) : numsV f (n + 1) = numsV f n ++ [.int (f n : Nat)] := by
  unfold numsV
  rw [List.range_succ, List.map_append]
  rfl
theorem numsV_congr {f g : Nat → Nat} {n : Nat} (h : ∀ i, i < n → f i = g i) : numsV f n = numsV g n := by
  unfold numsV
  exact List.map_congr_left fun i hi => by rw [h i (List.mem_range.mp hi)]
def lfO : Option Nat → Leaf
  | none => .none
  | some n => .num (n : Nat)
def keyP (p : Pr) : List Leaf := [lfO p.1, lfO p.2]
theorem lfO_inj {a b : Option Nat} (h : lfO a = lfO b) : a = b := by
  cases a with
  | none => cases b with
    | none => rfl
    | some n => cases h
  | some m => cases b with
    | none => cases h
    | some n =>
      have h : ((m : Nat) : Int) = (n : Nat) := Leaf.num.inj h
      rw [Int.ofNat.inj h]
theorem keyP_inj {a b : Pr} (h : keyP a = keyP b) : a = b := by
  have h1 := List.cons.inj h
  have h2 := List.cons.inj h1.2
  exact Prod.ext (lfO_inj h1.1) (lfO_inj h2.1)
theorem lf_o (o : Option Nat) : LfV (oV o) (lfO o) := by
  cases o with
  | none => exact .non
  | some n => exact .int _
theorem cls_zero {C : Gr} (h : 0 < C.length) : cls C 0 = 1 := by
  have e := parts_len (parts_zero (· < C.length) C (0 : Nat))
  rw [← e]
  have gen : ∀ n, 0 < n → ddF (fun _ : Nat => (0 : Nat)) n = [0] := by
    intro n
    induction n with
    | zero => intro z; cases z
    | succ n ih =>
      intro _
      show (if 0 ∈ ddF (fun _ : Nat => (0 : Nat)) n then ddF (fun _ : Nat => (0 : Nat)) n else ddF (fun _ : Nat => (0 : Nat)) n ++ [0]) = [0]
      by_cases hn : 0 < n
      · rw [ih hn, if_pos (List.mem_singleton.mpr rfl)]
      · obtain rfl : n = 0 := by omega
        rfl
  rw [gen _ h]
  rfl
def spLG2 : Sp := fun vs H Q _ => ∃ (p : Addr) (C : Gr), vs = [.ref p] ∧ GrAt H p C ∧ Closed C ∧ 0 < C.length ∧ C.length ≤ 10000 ∧ ∀ (f : Nat → Nat) (l : Addr) H', Same H H' → H l = none → H' l = some (.lst (numsV f C.length)) → (∀ i j, i < C.length → j < C.length → (f i = f j ↔ Pw.Same C i j)) → Q (.ref l) H'
theorem ok_lg {f : Addr} {fd : FuncData} {k : Nat} (F : Fun K "like_groups" "like_groups" sLG2 f fd) (ml : mg "len" = none) (mt : mg "tuple" = none) : FnOk P w K mg base CX0 (k + 1) f fd ["pairs"] spLG2 := by
  refine F.ok scLG2 (fun vs H Q E h => ?_) (fun cdv A outer s H vs Q E hr h => ?_)
  · obtain ⟨p, C, rfl, _⟩ := h
    rfl
  · obtain ⟨p, C, rfl, hg, hc, h0, hC, q⟩ := h
    refine ⟨_, pss_cons (ps_set (i := 1) scLG2.nd rfl (.inr rfl) (pe_op op_rep (pe_lst (pa_cons pe_int pa_nil)) (pe_callB call_len_seq (by rfl) ml PySem.boot_len (pa_cons (pv 0) pa_nil))))
      (pss_cons (ps_set (i := 2) scLG2.nd rfl (.inl rfl) pe_int)
      (pss_one (ps_while PassesOwn.never (pt_val pe_bl)
        (pss_cons (ps_set (i := 3) scLG2.nd rfl (.inl rfl) pe_xnew)
        (pss_cons (ps_set (i := 4) scLG2.nd rfl (.inl rfl) (pe_lst pa_nil))
        (C8.pss_cut (ps_for PassesOwn.never rfl (pi_list (pv 0)) (pg_name (i := 5) scLG2.nd rfl (.inl rfl))
          (pss_cons (ps_set (i := 6) scLG2.nd rfl (.inl rfl) (pe_callTy (T := "tuple") (r := rTupO K) call_tuple_of (by rfl) mt (by decide +kernel) (pa_cons (pe_lc (own := [("goal", 7)]) (g := gName 7) (tt := tYes) rfl scLG2.nd (pi_tup (pv 5))
              (blkOk_by (N := nLG2) (sc := defScope sLG2) (by decide +kernel)) (fun _ _ _ _ _ => pg_name (i := 7) scLG2.nd rfl (Or.inl rfl)) (fun _ _ _ _ _ => pts_nil)
              (fun _ _ _ _ _ => pe_ifExp (pt_cmpR op_isN (pv 7) pe_non (nomark _)) pe_non (pe_ix (r := rIxL K) ix_list (pv 1) (pv 7) (fun _ _ => rfl)))) pa_nil)))
          (pss_one (ps_expr (pe_bm PySem.F.plainAttrs_list PySem.F.slot_list_append PySem.F.type_list_append mt_append (pv 4) (pa_cons (pe_xsetd (room1 hr) (pv 3) (pv 6) (pe_callB call_xlen (by rfl) ml PySem.boot_len (pa_cons (pv 3) pa_nil)) ⟨rfl, rfl, rfl, rfl⟩) pa_nil))))))
        (pss_cons (ps_if (pt_cmpR op_eq (pe_callB call_xlen (by rfl) ml PySem.boot_len (pa_cons (pv 3) pa_nil)) (pv 2) (nomark _)) (pss_one (ps_ret (pv 4))) pss_nil)
        (pss_cons (ps_set (i := 1) scLG2.nd rfl (.inr rfl) (pv 4))
        (pss_one (ps_set (i := 2) scLG2.nd rfl (.inl rfl) (pe_callB call_xlen (by rfl) ml PySem.boot_len (pa_cons (pv 3) pa_nil)))))))))))), ?_⟩
    obtain ⟨ts, hts, hpr⟩ := id hg
    have htl : ts.length = C.length := Paired.length hpr
    have cl := closed_lt hc
    refine ⟨by show 1 ≤ sizeLine; decide, fun l0 nl0 => ?_⟩
    refine ⟨_, rfl, p, _, rfl, .inl (SqL.of (same_new nl0 _ _ hts)), l0, _, _, rfl, rfl, upd_same, by omega, by rw [List.length_map]; omega, ?_, fun l1 nl1 => ?_⟩
    · rw [List.length_map, htl]
      show 1 * ((C.length : Nat) : Int).toNat ≤ sizeLine
      exact Nat.le_trans (by omega : _ ≤ 20000) (by decide)
    have er : (List.replicate (((ts.map V.ref).length : Nat) : Int).toNat [V.int 0]).flatten = numsV (fun _ => 0) C.length := by
      rw [List.length_map, htl, show ((C.length : Nat) : Int).toNat = C.length by omega]
      unfold numsV
      generalize C.length = n
      induction n with
      | zero => rfl
      | succ n ih =>
        rw [List.range_succ, List.map_append, ← ih, List.replicate_succ', List.flatten_append]
        rfl
    rw [er]
    have sm0 : Same H (upd (upd H l0 (.lst [.int 0])) l1 (.lst (numsV (fun _ => 0) C.length))) := (same_new nl0).trans (same_new nl1)
    refine ⟨fun m σ G => ∃ (n : Nat) (f : Nat → Nat) (l : Addr) (y3 y4 y5 y6 : Option V), σ = [some (.ref p), some (.ref l), some (.int (cls C n : Nat)), y3, y4, y5, y6, none] ∧ Same H G ∧ G l = some (.lst (numsV f C.length)) ∧ Pw.Parts (· < C.length) C n f ∧ m + cls C n = 10001,
      ⟨10000, 0, fun _ => 0, l1, none, none, none, none, by rw [cls_zero h0]; rfl, sm0, upd_same, parts_zero _ _ _, by rw [cls_zero h0]⟩, ?_⟩
    rintro m σ G ⟨n, f, l, y3, y4, y5, y6, rfl, sG, hl, hP, hm⟩
    have hP1 := parts_next cl hP
    generalize hfk : (fun i => ((goG C i false).map f, (goG C i true).map f)) = fk at hP1
    have hfk2 : ∀ i pr, C[i]? = some pr → fk i = (pr.1.map f, pr.2.map f) := fun i pr e => by
      rw [← hfk]
      show ((goG C i false).map f, (goG C i true).map f) = _
      unfold goG
      rw [e]
      rfl
    have hlen : (ddF fk C.length).length = cls C (n + 1) := parts_len hP1
    refine ⟨_, rfl, iteT ⟨fun σ G' => ∃ (f : Nat → Nat) (l : Addr) (y3 y4 y5 y6 : Option V), σ = [some (.ref p), some (.ref l), some (.int (cls C (n + 1) : Nat)), y3, y4, y5, y6, none] ∧ Same H G' ∧ G' l = some (.lst (numsV f C.length)) ∧ Pw.Parts (· < C.length) C (n + 1) f ∧ cls C n ≠ cls C (n + 1), ?_, ?_⟩⟩
    · rintro σ' G' ⟨f2, l2, y3, y4, y5, y6, h1, h2, h3, h4, h5⟩
      have a1 := cls_up C n
      have a2 := cls_le C (n + 1)
      exact ⟨10001 - cls C (n + 1), by omega, n + 1, f2, l2, y3, y4, y5, y6, h1, h2, h3, h4, by omega⟩
    intro d ob nd dx
    refine ⟨by show 0 ≤ sizeLine; decide, fun fl nfl => ?_⟩
    have nfl0 : G fl = none := NdefX.upd_none nfl
    have fd2 : fl ≠ d := fun z => by
      rw [z, upd_same] at nfl
      cases nfl
    refine ⟨fun σ G1 => ∃ (kvs : List (List Leaf × V)) (y5 y6 : Option V), σ = [some (.ref p), some (.ref l), some (.int (cls C n : Nat)), some (.ref d), some (.ref fl), y5, y6, none] ∧ Same G G1 ∧ DX P w G1 d kvs ∧ kvs.length = (ddF fk C.length).length ∧ G1 fl = some (.lst (numsV (nmb fk C.length) C.length)), ?_, ?_⟩
    · refine ⟨_, rfl, p, rfl, ⟨_, SqL.of (((same_new nd).trans (same_new nfl)) _ _ (sG _ _ hts))⟩, for_list (K := K) (a := p) (xs := ts.map V.ref) (fun i σ G1 => ∃ (kvs : List (List Leaf × V)) (y5 y6 : Option V), σ = [some (.ref p), some (.ref l), some (.int (cls C n : Nat)), some (.ref d), some (.ref fl), y5, y6, none] ∧ Same G G1 ∧ DX P w G1 d kvs ∧
        (∀ k, valV kvs (keyP k) = if k ∈ ddF fk i then some (.int (posn (ddF fk i) k : Nat)) else none) ∧ kvs.length = (ddF fk i).length ∧ G1 fl = some (.lst (numsV (nmb fk i) i))) ⟨[], y5, y6, rfl, (same_new nd).trans (same_new nfl), dx.same (same_new nfl), fun k => rfl, rfl, upd_same⟩ ?_ ?_ ?_⟩
      · rintro i σ G1 _ ⟨kvs, y5, y6, _, sg, _⟩
        exact SqL.of (sg _ _ (sG _ _ hts))
      · rintro i x σ G1 hx ⟨kvs, y5, y6, rfl, sg, dx1, hv, hkl, hfl⟩
        rw [List.getElem?_map] at hx
        cases et : ts[i]? with
        | none =>
          rw [et] at hx
          cases hx
        | some t =>
          rw [et] at hx
          obtain rfl : V.ref t = x := Option.some.inj hx
          have hi : i < C.length := by
            rw [← htl]
            exact (List.getElem?_eq_some_iff.mp et).1
          have ec : C[i]? = some C[i] := List.getElem?_eq_getElem hi
          have htt := paired_get hpr et ec
          generalize C[i] = pr at ec htt
          have s01 := sG.trans sg
          refine ⟨_, rfl, t, rfl, ⟨_, SqT.of (s01 _ _ htt)⟩, fun D nD => ?_⟩
          refine lc_tup (K := K) (a := t) (xs := [oV pr.1, oV pr.2]) (fun j G2 => Same G1 G2 ∧ G2 D = some (.lst ([oV (pr.1.map f), oV (pr.2.map f)].take j))) ⟨same_new nD, upd_same⟩ (fun j G2 _ h => SqT.of (h.1 _ _ (s01 _ _ htt))) (fun j v G2 hv h => ?_) (fun G2 h => ?_)
          · obtain ⟨s2, h2⟩ := h
            have hj : j < 2 := (List.getElem?_eq_some_iff.mp hv).1
            obtain ⟨o, rfl, eo, ow⟩ : ∃ o, v = oV o ∧ (∀ g, o = some g → g < C.length) ∧ [oV (pr.1.map f), oV (pr.2.map f)][j]? = some (oV (o.map f)) := by
              have cl2 : ∀ b g, pick pr b = some g → g < C.length := fun b g e => hc i b g (by unfold goG; rw [ec]; exact e)
              rcases (show j = 0 ∨ j = 1 by omega) with rfl | rfl
              · cases hv
                exact ⟨_, rfl, cl2 false, rfl⟩
              · cases hv
                exact ⟨_, rfl, cl2 true, rfl⟩
            have fin : ∀ y, y = oV (o.map f) → ∃ acc, G2 D = some (.lst acc) ∧ acc.length < sizeLine ∧ (Same G1 (upd G2 D (.lst (acc ++ [y]))) ∧ upd G2 D (.lst (acc ++ [y])) D = some (.lst ([oV (pr.1.map f), oV (pr.2.map f)].take (j + 1)))) := fun y ey => by
              refine ⟨_, h2, ?_, same_put s2 nD, ?_⟩
              · rw [List.length_take]
                exact Nat.lt_of_le_of_lt (Nat.min_le_right _ _) (by show 2 < sizeLine; decide)
              · rw [upd_same, List.take_add_one, ow, ey]
                rfl
            cases o with
            | none => exact ⟨rfl, _, rfl, rfl, _, rfl, iteT (fin .non rfl)⟩
            | some g =>
              exact ⟨rfl, _, rfl, rfl, _, rfl, iteF ⟨_, rfl, _, rfl, l, _, _, .int (f g : Nat), rfl, rfl, SqL.of (s2 _ _ (sg _ _ hl)), atI_nat (numsV_get f (eo g rfl)), fin _ rfl⟩⟩
          · obtain ⟨s2, h2⟩ := h
            refine ⟨D, _, rfl, .inl ⟨SqL.of h2, fun T nT => ?_⟩⟩
            have s3 := s2.trans (same_new (o := .tup ([oV (pr.1.map f), oV (pr.2.map f)].take 2)) nT)
            have hfl3 := s3 _ _ hfl
            have dx3 := dx1.same s3
            have hk3 : kvs.length ≤ 10000 := by
              have a1 : (ddF fk i).length ≤ (ddF fk C.length).length := by
                have := (dd_pre fk (C.length - i) i).length_le
                rw [show i + (C.length - i) = C.length by omega] at this
                exact this
              have := cls_le C (n + 1)
              omega
            have efk := hfk2 i pr ec
            have hT3 : upd G2 T (.tup ([oV (pr.1.map f), oV (pr.2.map f)].take 2)) T = some (.tup [oV (pr.1.map f), oV (pr.2.map f)]) := upd_same
            have lfs : LfVs [oV (pr.1.map f), oV (pr.2.map f)] (keyP (fk i)) := by
              rw [efk]
              exact .cons (lf_o _) (.cons (lf_o _) .nil)
            have hsn : ∀ v, v = nmb fk (i + 1) i → numsV (nmb fk i) i ++ [V.int (v : Nat)] = numsV (nmb fk (i + 1)) (i + 1) := fun v ev => by
              rw [numsV_snoc, ev, numsV_congr fun j hj => nmb_step (f := fk) hj]
            have hsz : (numsV (nmb fk i) i).length < sizeLine := by
              rw [numsV_len]
              exact smallB (by omega)
            refine ⟨_, rfl, .inl ⟨rfl, _, SqL.of hfl3⟩, _, rfl, d, rfl, ⟨kvs, dx3⟩, _, rfl, _, rfl, d, kvs, rfl, dx3, by omega, kvs, _, T, _, dx3, Nat.lt_of_le_of_lt hk3 (by decide), rfl, hT3, lfs, fun v e => ?_, fun e ob2 dx4 => ?_⟩
            · rw [hv] at e
              by_cases hm2 : fk i ∈ ddF fk i
              · rw [if_pos hm2] at e
                obtain rfl : V.int (posn (ddF fk i) (fk i) : Nat) = v := Option.some.inj e
                have ed : ddF fk (i + 1) = ddF fk i := if_pos hm2
                refine ⟨fl, _, _, rfl, rfl, hfl3, hsz, kvs, _, _, rfl, same_put (sg.trans s3) nfl0, ?_, ?_, ?_, ?_⟩
                · refine dx3.keep fun b o e k => ?_
                  have bf : b ≠ fl := by
                    rcases k with z | ⟨ys, z⟩
                    · rw [z]
                      exact fun z => fd2 z.symm
                    · intro z2
                      rw [z2, hfl3, z] at e
                      cases e
                  rw [upd_ne bf]
                  exact e
                · rw [ed]
                  exact hv
                · rw [ed]
                  exact hkl
                · rw [upd_same, hsn _ (by rw [nmb_last, if_pos hm2])]
              · rw [if_neg hm2] at e
                cases e
            · rw [hv] at e
              by_cases hm2 : fk i ∈ ddF fk i
              · rw [if_pos hm2] at e
                cases e
              · have ed : ddF fk (i + 1) = ddF fk i ++ [fk i] := if_neg hm2
                have hvn : valV kvs (keyP (fk i)) = none := by rw [hv, if_neg hm2]
                have hfl4 : upd (upd G2 T (.tup ([oV (pr.1.map f), oV (pr.2.map f)].take 2))) d ob2 fl = some (.lst (numsV (nmb fk i) i)) := by
                  rw [upd_ne fd2]
                  exact hfl3
                refine ⟨fl, _, _, rfl, rfl, hfl4, hsz, _, _, _, rfl, same_put (same_put (sg.trans s3) nd) nfl0, dx4.keep fun b o e k => ?_, fun k => ?_, ?_, ?_⟩
                · have bf : b ≠ fl := by
                    rcases k with z | ⟨ys, z⟩
                    · rw [z]
                      exact fun z => fd2 z.symm
                    · intro z2
                      rw [z2, z] at e
                      exact nomatch (hfl4.symm.trans e)
                  rw [upd_ne bf]
                  exact e
                · rw [valV_put, ed]
                  by_cases c : keyP k = keyP (fk i)
                  · rw [if_pos c, keyP_inj c, if_pos (List.mem_append_right _ (List.mem_singleton.mpr rfl)), posn_new hm2, hkl]
                  · have ne : k ≠ fk i := fun z => c (by rw [z])
                    rw [if_neg c, hv]
                    by_cases m2 : k ∈ ddF fk i
                    · rw [if_pos m2, if_pos (List.mem_append_left _ m2), posn_pre (List.prefix_append _ _) m2]
                    · rw [if_neg m2, if_neg (fun z => (List.mem_append.mp z).elim m2 fun z => ne (List.mem_singleton.mp z))]
                · rw [putK_new _ hvn, List.length_append, ed, List.length_append, hkl]
                  rfl
                · rw [upd_same, hsn _ (by rw [nmb_last, if_neg hm2, hkl])]
      · rintro σ G1 ⟨kvs, y5, y6, h1, h2, h3, h4, h5, h6⟩
        rw [List.length_map, htl] at h4 h5 h6
        exact ⟨kvs, y5, y6, h1, h2, h3, h5, h6⟩
    · rintro _ G1 ⟨kvs, y5, y6, rfl, sg, dx1, hkl, hfl⟩
      have le : kvs.length ≤ 1000000 := by
        rw [hkl, hlen]
        have := cls_le C (n + 1)
        omega
      refine ⟨_, rfl, d, kvs, rfl, dx1, le, _, rfl, rfl, _, rfl, ?_⟩
      rw [hkl, hlen]
      have hPn : Pw.Parts (· < C.length) C (n + 1) (nmb fk C.length) := parts_nmb (fun i h => h) hP1
      by_cases he : cls C (n + 1) = cls C n
      · rw [decide_eq_true (by rw [he])]
        exact iteT ⟨_, rfl, q (nmb fk C.length) fl G1 (sG.trans sg) (sG.free nfl0) hfl fun i j hi hj => parts_cls hc hPn he.symm hi hj⟩
      · rw [decide_eq_false (fun z => he (by have z := V.int.inj z; exact Int.ofNat.inj z))]
        refine iteF ⟨_, rfl, _, rfl, d, kvs, rfl, dx1, le, nmb fk C.length, fl, some (.ref d), some (.ref fl), y5, y6, ?_, sG.trans sg, hfl, hPn, fun z => he z.symm⟩
        rw [hkl, hlen]
        rfl
end
end K28

set_option Elab.async false
set_option linter.all false
set_option maxRecDepth 100000
set_option maxHeartbeats 4000000
namespace K28
open PySem PySem.Spec PyProof.Rows L2 Pw TL
section
variable {P : Program} {w : World} {K : PySem.W.Frag} {mg : Str → Option Value} {base : Heap}
/-! numbered, of numbers -/
def nsV (R : List Nat) : List V := R.map fun s => V.int (s : Nat)
def TTI : V → (V → Hp → VK → Prop) → Hp → VK → Prop := fun v0 tl H Q => ∃ (st : Nat → Bool → Option Nat) (Rs : Nat → Prop) (U : List Nat) (s0 : Nat), v0 = .int (s0 : Nat) ∧ Rs s0 ∧ U.length ≤ 10000 ∧ (∀ s, Rs s → s ∈ U) ∧ (∀ s c s', Rs s → st s c = some s' → Rs s') ∧
  (∀ G (s : Nat) Q', Same H G → Rs s → (∀ T G', Same G G' → G' T = some (.tup [oV (st s false), oV (st s true)]) → Q' (.ref T) G') → tl (.int (s : Nat)) G Q') ∧
  (∀ R W p G, Done st s0 R W → W.length ≤ 10000 → Same H G → H p = none → GrAt G p W → Q (.ref p) G)
structure St2 (H G : Hp) (dn rn : Addr) (R : List Nat) (kvs : List (Key × V)) : Prop where
  dk : G dn = some (.dK kvs)
  val : ∀ s : Nat, valV kvs (.inl (s : Int)) = if s ∈ R then some (.int (posn R s : Nat)) else none
  kl : kvs.length ≤ R.length
  rl : G rn = some (.lst (nsV R))
  sm : Same H G
  nd : H dn = none
  nr : H rn = none
theorem inl_ne {a b : Nat} (h : a ≠ b) : ¬ (Sum.inl (a : Int) : Key) = .inl (b : Int) := fun z => h (Int.ofNat.inj (Sum.inl.inj z))
theorem St2.more {H G G' : Hp} {dn rn : Addr} {R : List Nat} {kvs : List (Key × V)} (h : St2 H G dn rn R kvs) (s : Same G G') : St2 H G' dn rn R kvs := ⟨s _ _ h.dk, h.val, h.kl, s _ _ h.rl, h.sm.trans s, h.nd, h.nr⟩
theorem St2.put {H G : Hp} {dn rn : Addr} {R : List Nat} {kvs : List (Key × V)} {s : Nat} (h : St2 H G dn rn R kvs) (hs : s ∉ R) :
    St2 H (upd (upd G dn (.dK (putK kvs (.inl (s : Int)) (.int (R.length : Nat))))) rn (.lst (nsV R ++ [.int (s : Nat)]))) dn rn (R ++ [s]) (putK kvs (.inl (s : Int)) (.int (R.length : Nat))) := by
  have rd : rn ≠ dn := fun z => by
    have := h.rl
    rw [z, h.dk] at this
    cases this
  refine ⟨by rw [upd_ne (fun z => rd z.symm), upd_same], fun s' => ?_, ?_, ?_, same_put (same_put h.sm h.nd) h.nr, h.nd, h.nr⟩
  · rw [valV_put]
    by_cases c : s' = s
    · rw [c, if_pos rfl, if_pos (List.mem_append_right _ (List.mem_singleton.mpr rfl)), posn_new hs]
    · rw [if_neg (inl_ne c), h.val]
      by_cases m : s' ∈ R
      · rw [if_pos m, if_pos (List.mem_append_left _ m), posn_pre (List.prefix_append _ _) m]
      · rw [if_neg m, if_neg (fun z => (List.mem_append.mp z).elim m fun z => c (List.mem_singleton.mp z))]
  · have := length_putK kvs (.inl (s : Int)) (.int (R.length : Nat))
    have := h.kl
    rw [List.length_append]
    show _ ≤ _ + 1
    omega
  · rw [upd_same]
    unfold nsV
    rw [List.map_append]
    rfl
theorem St2.other {H G : Hp} {dn rn b : Addr} {R : List Nat} {kvs : List (Key × V)} {o : HO} (h : St2 H G dn rn R kvs) (bd : b ≠ dn) (br : b ≠ rn) (nb : H b = none) : St2 H (upd G b o) dn rn R kvs :=
  ⟨by rw [upd_ne (fun z => bd z.symm)]; exact h.dk, h.val, h.kl, by rw [upd_ne (fun z => br z.symm)]; exact h.rl, same_put h.sm nb, h.nd, h.nr⟩
theorem pairs_extN {st : Nat → Bool → Option Nat} {R R' : List Nat} {n : Nat} (hp : R <+: R') (hn : n ≤ R.length) (ha : ∀ s ∈ R.take n, ∀ c g, st s c = some g → g ∈ R) : Pw.pairsOf st R' n = Pw.pairsOf st R n := by
  unfold Pw.pairsOf
  obtain ⟨t, rfl⟩ := hp
  rw [List.take_append_of_le_length hn]
  refine List.map_congr_left fun s hs => ?_
  have one : ∀ c, (st s c).map (posn (R ++ t)) = (st s c).map (posn R) := fun c => by
    cases e : st s c with
    | none => rfl
    | some g =>
      show some _ = some _
      rw [posn_pre (List.prefix_append _ _) (ha s hs c g e)]
  rw [one, one]
theorem bi_takeN {st : Nat → Bool → Option Nat} {s0 : Nat} {R : List Nat} {Pl : List Nat} {n : Nat} (b : BI st s0 R Pl (2 * n)) (hn : n ≤ R.length) : ∀ s ∈ R.take n, ∀ c g, st s c = some g → g ∈ R := fun s hs c g e => by
  obtain ⟨k, hk, ek⟩ := List.getElem_of_mem hs
  rw [List.length_take] at hk
  rw [List.getElem_take] at ek
  refine b.all (edge k c) (edge_lt (by omega)) g ?_
  unfold tgt
  rw [edge_div, edge_mod, List.getElem?_eq_getElem (by omega), ek]
  exact e
theorem gives_numI {X : Cx} {g : Addr} {cdg : Value} {q : Str} (ml : X.mg "len" = none) (mt : X.mg "tuple" = none) : GivesP X nNB "numbered" (defScope sNB) g cdg (defBody sNB) "onward" q TTI := by
  intro f c' s H v0 Q tl k hr HA hco h
  obtain ⟨st, Rs, U, s0, rfl, hs0, hU, hin, hcl, hst, hq⟩ := h
  refine ⟨_, pss_cons (ps_set (i := 2) scNB.nd rfl (.inr rfl) (pe_disp (pps_cons (pv 0) pe_int pps_nil) rfl rfl (by simp) (by decide)))
    (pss_cons (ps_set (i := 3) scNB.nd rfl (.inl rfl) (pe_lst (pa_cons (pv 0) pa_nil)))
    (pss_cons (ps_set (i := 4) scNB.nd rfl (.inl rfl) (pe_lst pa_nil))
    (pss_cons (ps_while PassesOwn.never (pt_cmpR op_lt (pe_callB call_len_seq (by rfl) ml PySem.boot_len (pa_cons (pv 4) pa_nil)) (pe_callB call_len_seq (by rfl) ml PySem.boot_len (pa_cons (pv 3) pa_nil)) (nomark _))
      (pss_cons (ps_set (i := 5) scNB.nd rfl (.inl rfl) (HA _ _ _ _ (fun _ => rfl) (pe_ix ix_list (pv 3) (pe_callB call_len_seq (by rfl) ml PySem.boot_len (pa_cons (pv 4) pa_nil)) (fun _ _ => rfl))))
      (C8.pss_cut (ps_for PassesOwn.never rfl (pi_tup (pv 5)) (pg_name (i := 6) scNB.nd rfl (.inl rfl))
        (pss_one (ps_if (PW.pt (pw_and (pt_cmpR op_notN (pv 6) pe_non (nomark _)) (pw_and1 (pt_cmp (pc_dnotin (room1 hr) (pv 6) (pv 2))))))
          (pss_cons (ps_dput (room1 hr) (pv 2) (pv 6) (pe_callB call_len_seq (by rfl) ml PySem.boot_len (pa_cons (pv 3) pa_nil)) rfl)
          (pss_one (ps_expr (pe_bm PySem.F.plainAttrs_list PySem.F.slot_list_append PySem.F.type_list_append mt_append (pv 3) (pa_cons (pv 6) pa_nil))))) pss_nil)))
      (pss_one (ps_expr (pe_bm PySem.F.plainAttrs_list PySem.F.slot_list_append PySem.F.type_list_append mt_append (pv 4) (pa_cons (pe_callTy call_tuple_of (by rfl) mt (by decide +kernel) (pa_cons (pe_lc (own := [("goal", 6)]) (g := gName 6) (tt := tYes) rfl scNB.nd (pi_tup (pv 5))
        (blkOk_by (N := nNB) (sc := defScope sNB) (by decide +kernel)) (fun _ _ _ _ _ => pg_name (i := 6) scNB.nd rfl (Or.inl rfl)) (fun _ _ _ _ _ => pts_nil)
        (fun _ _ _ _ _ => pe_ifExp (pt_cmpR op_isN (pv 6) pe_non (nomark _)) pe_non (pe_dget (room1 hr) (pv 2) (pv 6) (fun _ _ => rfl)))) pa_nil)) pa_nil)))))))
    (pss_one (ps_ret (pv 4)))))), ?_⟩
  intro dn ndn
  refine ⟨.int (s0 : Nat), rfl, upd_same, [(.inl (s0 : Int), .int 0)], rfl, by show 1 ≤ 15; decide, ?_⟩
  refine ⟨_, rfl, by show 1 ≤ sizeLine; decide, fun rn nrn => ?_⟩
  refine ⟨by show 0 ≤ sizeLine; decide, fun pn npn => ?_⟩
  have hrn : H rn = none := NdefX.upd_none (NdefX.upd_none nrn)
  have pr : pn ≠ rn := fun z => by
    rw [z, upd_same] at npn
    cases npn
  have hpn : H pn = none := NdefX.upd_none (NdefX.upd_none (NdefX.upd_none npn))
  have S0 : St2 H (upd (upd (upd (upd H dn (.dK [])) dn (.dK (mergeK [] [((Sum.inl (s0 : Int) : Key), V.int 0)]))) rn (.lst [.int (s0 : Nat)])) pn (.lst [])) dn rn [s0] (mergeK [] [((Sum.inl (s0 : Int) : Key), V.int 0)]) := by
    have s1 : Same H (upd (upd H dn (.dK [])) dn (.dK (mergeK [] [((Sum.inl (s0 : Int) : Key), V.int 0)]))) := same_put (same_new ndn) ndn
    have s3 : Same (upd (upd H dn (.dK [])) dn (.dK (mergeK [] [((Sum.inl (s0 : Int) : Key), V.int 0)]))) (upd (upd (upd (upd H dn (.dK [])) dn (.dK (mergeK [] [((Sum.inl (s0 : Int) : Key), V.int 0)]))) rn (.lst [.int (s0 : Nat)])) pn (.lst [])) := (same_new nrn).trans (same_new npn)
    refine ⟨s3 _ _ upd_same, fun s => ?_, Nat.le_refl _, ?_, s1.trans s3, ndn, hrn⟩
    · show valV (putK ([] : List (Key × V)) (.inl (s0 : Int)) (.int 0)) (.inl (s : Int)) = _
      rw [valV_put]
      by_cases e : s = s0
      · rw [e, if_pos rfl, if_pos (List.mem_singleton.mpr rfl)]
        have : posn [s0] s0 = 0 := posn_eq (R := [s0]) (List.nodup_cons.mpr ⟨(fun z => nomatch z), List.nodup_nil⟩) rfl
        rw [this]
        rfl
      · rw [if_neg (inl_ne e), if_neg (fun z => e (List.mem_singleton.mp z))]
        rfl
    · rw [upd_ne (fun z => pr z.symm), upd_same]
      rfl
  refine ⟨fun m σ G => ∃ (n : Nat) (R : List Nat) (kvs : List (Key × V)) (Pl : List Nat) (y5 y6 : Option V), σ = [some (.int (s0 : Nat)), some (.ref f), some (.ref dn), some (.ref rn), some (.ref pn), y5, y6] ∧ St2 H G dn rn R kvs ∧ BI st s0 R Pl (2 * n) ∧ n ≤ R.length ∧ (∀ s ∈ R, Rs s) ∧ GrAt G pn (Pw.pairsOf st R n) ∧ m + n = 10001,
    ⟨10001, 0, [s0], _, [], none, none, rfl, S0, BI.start s0, Nat.zero_le _, fun s hs => by rw [List.mem_singleton.mp hs]; exact hs0, ⟨[], upd_same, .nil⟩, rfl⟩, ?_⟩
  rintro m σ G ⟨n, R, kvs, Pl, y5, y6, rfl, S, b, hn, hR, ⟨us, hu, hp⟩, hm⟩
  have hlen : us.length = n := (Paired.length hp).trans (Pw.pairs_len hn)
  have hRU : R.length ≤ 10000 := Nat.le_trans (nd_le R U b.nd fun s hs => hin s (hR s hs)) hU
  have nl : ∀ R : List Nat, (nsV R).length = R.length := fun R => List.length_map ..
  refine ⟨_, rfl, pn, _, rfl, .inl (SqL.of hu), _, rfl, rn, _, rfl, .inl (SqL.of S.rl), _, _, rfl, rfl, _, rfl, ?_⟩
  rw [List.length_map, nl, hlen]
  by_cases hlt : n < R.length
  · rw [decide_eq_true (by omega)]
    refine iteT ⟨fun σ G => ∃ (R : List Nat) (kvs : List (Key × V)) (Pl : List Nat) (y5 y6 : Option V), σ = [some (.int (s0 : Nat)), some (.ref f), some (.ref dn), some (.ref rn), some (.ref pn), y5, y6] ∧ St2 H G dn rn R kvs ∧ BI st s0 R Pl (2 * (n + 1)) ∧ n + 1 ≤ R.length ∧ (∀ s ∈ R, Rs s) ∧ GrAt G pn (Pw.pairsOf st R (n + 1)), ?_, ?_⟩
    · rintro σ' G' ⟨R, kvs, Pl, y5, y6, h1, h2, h3, h4, h5, h6⟩
      exact ⟨m - 1, by omega, n + 1, R, kvs, Pl, y5, y6, h1, h2, h3, h4, h5, h6, by omega⟩
    have es : R[n]? = some R[n] := List.getElem?_eq_getElem hlt
    generalize R[n] = s at es
    have hat : atI (nsV R) ((us.map V.ref).length : Nat) = some (.int (s : Nat)) := by
      rw [List.length_map, hlen]
      exact atI_nat (by unfold nsV; rw [List.getElem?_map, es]; rfl)
    refine ⟨rfl, _, rfl, _, rfl, pn, _, rfl, .inl (SqL.of hu), rn, _, _, .int (s : Nat), rfl, rfl, SqL.of S.rl, hat, S.sm _ _ hco, ?_⟩
    refine hst G s _ S.sm (hR s (List.mem_of_getElem? es)) fun p G1 sg hg => ?_
    refine ⟨fun σ G => ∃ (R2 : List Nat) (kvs : List (Key × V)) (Pl : List Nat) (y6 : Option V), σ = [some (.int (s0 : Nat)), some (.ref f), some (.ref dn), some (.ref rn), some (.ref pn), some (.ref p), y6] ∧ St2 H G dn rn R2 kvs ∧ BI st s0 R2 Pl (2 * n + 2) ∧ R <+: R2 ∧ (∀ s ∈ R2, Rs s) ∧ GrAt G pn (Pw.pairsOf st R n) ∧ G p = some (.tup [oV (st s false), oV (st s true)]), ?_, ?_⟩
    · refine ⟨_, rfl, p, rfl, ⟨_, SqT.of hg⟩, for_tup (K := X.K) (a := p) (xs := [oV (st s false), oV (st s true)]) (fun i σ G => ∃ (R2 : List Nat) (kvs : List (Key × V)) (Pl : List Nat) (y6 : Option V), σ = [some (.int (s0 : Nat)), some (.ref f), some (.ref dn), some (.ref rn), some (.ref pn), some (.ref p), y6] ∧ St2 H G dn rn R2 kvs ∧ BI st s0 R2 Pl (2 * n + i) ∧ R <+: R2 ∧ (∀ s ∈ R2, Rs s) ∧ GrAt G pn (Pw.pairsOf st R n) ∧ G p = some (.tup [oV (st s false), oV (st s true)]))
        ⟨R, kvs, Pl, y6, rfl, S.more sg, b, List.prefix_refl _, hR, GrAt.keep ⟨us, hu, hp⟩ (fun xs e => sg _ _ e) (fun b ys e => sg _ _ e), hg⟩ ?_ ?_ ?_⟩
      · rintro i σ G2 _ ⟨R2, kv2, Pl2, y6, _, _, _, _, _, _, h1⟩
        exact SqT.of h1
      · rintro i x σ G2 hx ⟨R2, kv2, Pl2, y6, rfl, S2, b2, hpre, hR2, gr, h1⟩
        have hi : i < 2 := (List.getElem?_eq_some_iff.mp hx).1
        have hn2 : n < R2.length := Nat.lt_of_lt_of_le hlt hpre.length_le
        have es2 : R2[n]? = some s := by
          obtain ⟨t, rfl⟩ := hpre
          rw [List.getElem?_append_left hlt]
          exact es
        have ox : x = oV (tgt st R2 (2 * n + i)) := by
          unfold tgt
          rw [show (2 * n + i) / 2 = n by omega, es2]
          show x = oV (st s ((2 * n + i) % 2 == 1))
          rcases (show i = 0 ∨ i = 1 by omega) with rfl | rfl
          · rw [show (2 * n + 0) % 2 = 0 by omega]
            cases hx
            rfl
          · rw [show (2 * n + 1) % 2 = 1 by omega]
            cases hx
            rfl
        cases eo : tgt st R2 (2 * n + i) with
        | none =>
          rw [eo] at ox
          subst ox
          refine ⟨_, rfl, rfl, _, rfl, iteF (iteF ⟨R2, kv2, Pl2, _, rfl, S2, ?_, hpre, hR2, gr, h1⟩)⟩
          have := b2.old (by omega) fun g hgg => by rw [eo] at hgg; cases hgg
          exact this
        | some s2 =>
          rw [eo] at ox
          subst ox
          refine ⟨_, rfl, rfl, _, rfl, iteT ⟨_, rfl, _, rfl, dn, _, rfl, DGet.k (k := .inl (s2 : Int)) S2.dk, _, rfl, ?_⟩⟩
          rw [S2.val]
          have h2R : R2.length ≤ 10000 := Nat.le_trans (nd_le R2 U b2.nd fun s hs => hin s (hR2 s hs)) hU
          by_cases hm2 : s2 ∈ R2
          · rw [if_pos hm2]
            refine iteF ⟨R2, kv2, Pl2, _, rfl, S2, ?_, hpre, hR2, gr, h1⟩
            have := b2.old (by omega) fun g hgg => by
              rw [eo] at hgg
              rw [← Option.some.inj hgg]
              exact hm2
            exact this
          · rw [if_neg hm2]
            have rd : rn ≠ dn := fun z => by
              have := S2.rl
              rw [z, S2.dk] at this
              cases this
            refine iteT ⟨_, rfl, rn, _, rfl, .inl (SqL.of S2.rl), _, rfl, _, rfl, dn, _, rfl, DPut.k (k := .inl (s2 : Int)) S2.dk ?_, ?_⟩
            · exact Nat.lt_of_le_of_lt S2.kl (smallB (by omega))
            have rn2 : upd G2 dn (.dK (putK kv2 (.inl (s2 : Int)) (.int ((nsV R2).length : Nat)))) rn = some (.lst (nsV R2)) := by
              rw [upd_ne rd]
              exact S2.rl
            refine ⟨_, rfl, .inl ⟨rfl, _, SqL.of rn2⟩, _, rfl, rn, _, _, rfl, rfl, rn2, ?_, ?_⟩
            · rw [nl]
              exact smallB (by omega)
            rw [nl]
            have S3 := S2.put hm2
            have kp : ∀ b ys, G2 b = some (.tup ys) → upd (upd G2 dn (.dK (putK kv2 (.inl (s2 : Int)) (.int (R2.length : Nat))))) rn (.lst (nsV R2 ++ [.int (s2 : Nat)])) b = some (.tup ys) := fun b ys e => by
              rw [upd_ne (fun z => by rw [z, S2.rl] at e; cases e), upd_ne (fun z => by rw [z, S2.dk] at e; cases e)]
              exact e
            refine ⟨R2 ++ [s2], _, Pl2 ++ [2 * n + i], _, rfl, S3, b2.new (by omega) eo hm2, hpre.trans (List.prefix_append _ _), fun s' hs' => ?_, gr.keep (fun xs e => ?_) kp, kp _ _ h1⟩
            · rcases List.mem_append.mp hs' with z | z
              · exact hR2 s' z
              · rw [List.mem_singleton.mp z]
                unfold tgt at eo
                rw [show (2 * n + i) / 2 = n by omega, es2] at eo
                exact hcl s _ s2 (hR2 s (List.mem_of_getElem? es2)) eo
            · rw [upd_ne pr, upd_ne (fun z => by rw [z, S2.dk] at e; cases e)]
              exact e
      · rintro σ G2 h
        exact h
    · rintro _ G2 ⟨R2, kv2, Pl2, y6, rfl, S2, b2, hpre, hR2, gr, h1⟩
      have hn2 : n < R2.length := Nat.lt_of_lt_of_le hlt hpre.length_le
      have es2 : R2[n]? = some s := by
        obtain ⟨t, rfl⟩ := hpre
        rw [List.getElem?_append_left hlt]
        exact es
      have inR : ∀ c g, st s c = some g → g ∈ R2 := fun c g e => by
        refine b2.all (edge n c) (by have := edge_lt (c := c) (Nat.lt_succ_self n); omega) g ?_
        unfold tgt
        rw [edge_div, edge_mod, es2]
        exact e
      obtain ⟨us2, hu2, hp2⟩ := id gr
      have hl2 : us2.length = n := (Paired.length hp2).trans (Pw.pairs_len hn)
      have h2R : R2.length ≤ 10000 := Nat.le_trans (nd_le R2 U b2.nd fun s hs => hin s (hR2 s hs)) hU
      refine ⟨_, rfl, .inl ⟨rfl, _, SqL.of hu2⟩, _, rfl, p, rfl, ⟨_, SqT.of h1⟩, fun D nD => ?_⟩
      refine lc_tup (K := X.K) (a := p) (xs := [oV (st s false), oV (st s true)]) (fun i G3 => Same G2 G3 ∧ G3 D = some (.lst ([oV ((st s false).map (posn R2)), oV ((st s true).map (posn R2))].take i))) ⟨same_new nD, upd_same⟩ (fun i G3 _ h => SqT.of (h.1 _ _ h1)) (fun i x G3 hx h => ?_) (fun G3 h => ?_)
      · obtain ⟨s3, h3⟩ := h
        have hi : i < 2 := (List.getElem?_eq_some_iff.mp hx).1
        obtain ⟨o, rfl, om, ow⟩ : ∃ o, x = oV o ∧ (∀ g, o = some g → g ∈ R2) ∧ [oV ((st s false).map (posn R2)), oV ((st s true).map (posn R2))][i]? = some (oV (o.map (posn R2))) := by
          rcases (show i = 0 ∨ i = 1 by omega) with rfl | rfl
          · cases hx
            exact ⟨_, rfl, inR false, rfl⟩
          · cases hx
            exact ⟨_, rfl, inR true, rfl⟩
        have fin : ∀ y, y = oV (o.map (posn R2)) → ∃ acc, G3 D = some (.lst acc) ∧ acc.length < sizeLine ∧ (Same G2 (upd G3 D (.lst (acc ++ [y]))) ∧ upd G3 D (.lst (acc ++ [y])) D = some (.lst ([oV ((st s false).map (posn R2)), oV ((st s true).map (posn R2))].take (i + 1)))) := fun y ey => by
          refine ⟨_, h3, ?_, same_put s3 nD, ?_⟩
          · rw [List.length_take]
            exact Nat.lt_of_le_of_lt (Nat.min_le_right _ _) (by show 2 < sizeLine; decide)
          · rw [upd_same, List.take_add_one, ow, ey]
            rfl
        cases o with
        | none => exact ⟨rfl, _, rfl, rfl, _, rfl, iteT (fin .non rfl)⟩
        | some s2 =>
          refine ⟨rfl, _, rfl, rfl, _, rfl, iteF ⟨_, rfl, _, rfl, dn, .int (posn R2 s2 : Nat), rfl, ?_, fin _ rfl⟩⟩
          have := DGet.k (k := .inl (s2 : Int)) (s3 _ _ S2.dk)
          rw [S2.val, if_pos (om s2 rfl)] at this
          exact this
      · obtain ⟨s3, h3⟩ := h
        refine ⟨D, _, rfl, .inl ⟨SqL.of h3, fun T nT => ?_⟩⟩
        have s4 := s3.trans (same_new (o := .tup ([oV ((st s false).map (posn R2)), oV ((st s true).map (posn R2))].take 2)) nT)
        have hu4 := s4 _ _ hu2
        refine ⟨pn, _, _, rfl, rfl, hu4, ?_, R2, kv2, Pl2, _, _, rfl, ?_, b2, by omega, hR2, us2 ++ [T], ?_, ?_⟩
        · rw [List.length_map, hl2]
          exact smallB (by omega)
        · exact (S2.more s4).other (fun z => by have := hu2; rw [z, S2.dk] at this; cases this) pr hpn
        · rw [upd_same, List.map_append]
          rfl
        · have e1 : Pw.pairsOf st R2 (n + 1) = Pw.pairsOf st R n ++ [((st s false).map (posn R2), (st s true).map (posn R2))] := by
            rw [← pairs_extN hpre hn (bi_takeN b hn)]
            unfold Pw.pairsOf
            rw [List.take_add_one, es2, List.map_append]
            rfl
          have kp : ∀ c ys, G2 c = some (.tup ys) → upd (upd G3 T (.tup ([oV ((st s false).map (posn R2)), oV ((st s true).map (posn R2))].take 2))) pn (.lst (us2.map V.ref ++ [.ref T])) c = some (.tup ys) := fun c ys e => by
            rw [upd_ne (fun z => by rw [z, hu2] at e; cases e)]
            exact s4 _ _ e
          rw [e1]
          refine Paired.snoc (Paired.mapP hp2 fun _ _ z => kp _ _ z) ?_
          have Tp : T ≠ pn := fun z => by
            rw [z, s3 _ _ hu2] at nT
            cases nT
          rw [upd_ne Tp, upd_same]
          rfl
  · rw [decide_eq_false (by omega)]
    have hnR : n = R.length := by omega
    subst hnR
    exact iteF ⟨_, rfl, hq R _ pn G b.done (by rw [Pw.pairs_len (Nat.le_refl _)]; exact hRU) S.sm hpn ⟨us, hu, hp⟩⟩
end
end K28

set_option Elab.async false
set_option linter.all false
set_option maxRecDepth 100000
set_option maxHeartbeats 4000000
namespace K28
open PySem PySem.Spec PyProof.Rows L2 Pw TL
section
open LamX NdefX
variable {P : Program} {w : World} {K : PySem.W.Frag} {mg : Str → Option Value} {base : Heap}
theorem same_go {C : Gr} {i j : Nat} (h : Pw.Same C i j) (c : Bool) : sameO (Pw.Same C) (goG C i c) (goG C j c) := by
  have h1 := h [c]
  have w1 : ∀ k, wlk C k [c] = goG C k c := fun k => by
    show (goG C k c).bind (fun j => some j) = _
    cases goG C k c <;> rfl
  rw [w1, w1] at h1
  cases e1 : goG C i c with
  | none =>
    rw [e1] at h1
    cases e2 : goG C j c with
    | none => exact trivial
    | some b =>
      rw [e2] at h1
      cases h1
  | some a =>
    rw [e1] at h1
    cases e2 : goG C j c with
    | none =>
      rw [e2] at h1
      cases h1
    | some b =>
      intro r
      have h2 : ((goG C i c).bind fun k => wlk C k r).isSome = ((goG C j c).bind fun k => wlk C k r).isSome := h (c :: r)
      rw [e1, e2] at h2
      exact h2
theorem same_map {C : Gr} (hc : Closed C) {f : Nat → Nat} (hf : ∀ i j, i < C.length → j < C.length → (f i = f j ↔ Pw.Same C i j)) {i j : Nat} (hi : i < C.length) (hj : j < C.length) (e : f i = f j) (c : Bool) : (goG C i c).map f = (goG C j c).map f := by
  have h := same_go ((hf i j hi hj).mp e) c
  cases e1 : goG C i c with
  | none =>
    rw [e1] at h
    cases e2 : goG C j c with
    | none => rfl
    | some b =>
      rw [e2] at h
      exact h.elim
  | some a =>
    rw [e1] at h
    cases e2 : goG C j c with
    | none =>
      rw [e2] at h
      exact h.elim
    | some b =>
      rw [e2] at h
      show some (f a) = some (f b)
      rw [(hf a b (hc i c a e1) (hc j c b e2)).mpr h]
/-- where a group leads -/
def stG (C : Gr) (f : Nat → Nat) (g : Nat) (c : Bool) : Option Nat := ((List.range C.length).find? fun j => f j == g).bind fun j => (goG C j c).map f
theorem stG_is {C : Gr} (hc : Closed C) {f : Nat → Nat} (hf : ∀ i j, i < C.length → j < C.length → (f i = f j ↔ Pw.Same C i j)) {i : Nat} (hi : i < C.length) (c : Bool) : stG C f (f i) c = (goG C i c).map f := by
  unfold stG
  cases e : (List.range C.length).find? fun j => f j == f i with
  | none =>
    have := List.find?_eq_none.mp e i (List.mem_range.mpr hi)
    exact absurd (beq_self_eq_true _) this
  | some j =>
    have hj := List.mem_range.mp (List.mem_of_find?_eq_some e)
    have ej : (f j == f i) = true := List.find?_some (p := fun j => f j == f i) e
    exact same_map hc hf hj hi (eq_of_beq ej) c
/-! whole_web -/
abbrev sWW : Stmt := topS 34
abbrev nWW : List Str := ["rule", "pairs", "groups", "merged", "group", "pair", "goal"]
theorem scWW : FnScope nWW ["rule"] (defScope sWW) := ⟨rfl, rfl, rfl, by decide +kernel, rfl, by decide +kernel, by decide +kernel⟩
def qWW : Str := "whole_web" ++ ".<locals>." ++ "<lambda>"
abbrev nWL : List Str := ["group", "merged"]
def spWW (R : Addr) (T : List (Addr × Str)) : Sp := fun vs H Q _ => ∃ (r p : Addr) (ys : List Str) (lo : Int) (hi sp : Option Int), vs = [.ref r] ∧ RuleAt H R r p ys lo hi sp ∧ RuleOk ys lo hi sp ∧ ys.length ≤ 10 ∧ (∀ s, sp = some s → s ≤ 4) ∧ Tabs T H ∧
  ∀ (p : Addr) (W : Gr) (G : Hp), ExtN H G → Tabs T G → NewN H p → WebOf (lawR ys lo hi sp) W → W.length ≤ 10000 → GrAt G p W → Q (.ref p) G
theorem ok_ww {f fN c Pt R fL fE fG : Addr} {fdL fdE fdG : FuncData} {T : List (Addr × Str)} {dV kV doc pm ct oc dV' kV' doc' pm' cdn ct' oc' : Value} {an od an' od' : Option Addr} {osl osl' : Array (Option Value)}
    (lk : K.lookup f = some ⟨oc, od, .func (PySem.W.fnOf "whole_web" "whole_web" (defArgs sWW) (defBody sWW) (defScope sWW) dV kV doc pm an (.ref c) ct), osl⟩) (hcd : PySem.W.codeIn K (.ref c) "whole_web" = true)
    (lkN : K.lookup fN = some ⟨oc', od', .func (PySem.W.fnOf "numbered" "numbered" (defArgs sNB) (defBody sNB) (defScope sNB) dV' kV' doc' pm' an' cdn ct'), osl'⟩) (hcN : PySem.W.codeIn K cdn "numbered" = true) (mN : mg "numbered" = some (.ref fN)) (kN : PySem.W.keepIn K (.ref fN) = true)
    (bN : Binds K (PySem.W.fnOf "numbered" "numbered" (defArgs sNB) (defBody sNB) (defScope sNB) dV' kV' doc' pm' an' cdn ct') ["start", "onward"] [])
    (TB : TabB base mg c Pt) (hT : (Pt, qWW) ∈ T) (hu : ∀ p ∈ T, p.1 = Pt → p.2 = qWW) (ml : mg "len" = none) (mt : mg "tuple" = none) (mz : mg "zip" = none) (DE : TupN K mg "DEAD_END" [.non, .non])
    (GL : FnOk P w K mg base CX0 5 fL fdL ["rule"] (spLP R T)) (lm : mg "lawful_pairs" = some (.ref fL)) (lk2 : PySem.W.keepIn K (.ref fL) = true) (lb : Binds K fdL ["rule"] [])
    (GE : FnOk P w K mg base CX0 1 fE fdE ["pairs"] spWE) (em : mg "without_dead_ends" = some (.ref fE)) (ek : PySem.W.keepIn K (.ref fE) = true) (eb : Binds K fdE ["pairs"] [])
    (GG : FnOk P w K mg base CX0 1 fG fdG ["pairs"] spLG2) (gm : mg "like_groups" = some (.ref fG)) (gk : PySem.W.keepIn K (.ref fG) = true) (gb : Binds K fdG ["pairs"] []) :
    FnOk P w K mg base CX0 6 f (PySem.W.fnOf "whole_web" "whole_web" (defArgs sWW) (defBody sWW) (defScope sWW) dV kV doc pm an (.ref c) ct) ["rule"] (spWW R T) := by
  obtain ⟨aD, mD, hD⟩ := DE
  refine fn_of lk hcd scWW (fun vs H Q E h => ?_) (fun A outer s H vs Q E hr h => ?_)
  · obtain ⟨r, p, ys, lo, hi, sp, rfl, _⟩ := h
    rfl
  · obtain ⟨r, p, ys, lo, hi, sp, rfl, hR, hok, h10, h4, hTab, q⟩ := h
    have r1 : Room 1 _ := hr.mono (by decide)
    suffices hh : ∃ t, PSs (cxOf CX0 P w K mg base nWW "whole_web" (defScope sWW) f (.ref c) A outer s H E).nox (defBody sWW) t ∧ t { nx := fun _ H' => Q .non H', rt := Q } (L2.start nWW [.ref r]) H by
      obtain ⟨t, h1, h2⟩ := hh
      exact ⟨t, h1.nox, h2⟩
    refine ⟨_, pss_cons (ps_set (i := 1) scWW.nd rfl (.inl rfl) (pe_call GE r1 rfl em ek eb .nil pass0 (pa_cons (pe_call GL hr rfl lm lk2 lb .nil pass0 (pa_cons (pv 0) pa_nil)) pa_nil)))
      (pss_cons (ps_if (pt_cmpR (op_eqD hr.units) (pe_ix ix_list (pv 1) pe_int (fun _ _ => rfl)) (pe_glob (v := .ref aD) rfl mD rfl) (nomark _)) (pss_one (ps_ret (pe_lst pa_nil))) pss_nil)
      (pss_cons (ps_set (i := 2) scWW.nd rfl (.inr rfl) (pe_call GG r1 rfl gm gk gb .nil pass0 (pa_cons (pv 1) pa_nil)))
      (pss_cons (ps_set (i := 3) scWW.nd rfl (.inr rfl) pe_dnewK)
      (C8.pss_cut (ps_for PassesOwn.never rfl (pi_zipD (by rfl) mz (pa_cons (pv 2) (pa_cons (pv 1) pa_nil))) (pg_tup rfl (pgs_cons (pg_name (i := 4) scWW.nd rfl (.inl rfl)) (pgs_cons (pg_name (i := 5) scWW.nd rfl (.inl rfl)) pgs_nil)))
        (pss_one (ps_dput (room1 hr) (pv 3) (pv 4) (pe_callTy (T := "tuple") (r := rTupO K) call_tuple_of (by rfl) mt (by decide +kernel) (pa_cons (pe_lc (own := [("goal", 6)]) (g := gName 6) (tt := tYes) rfl scWW.nd (pi_tup (pv 5))
          (blkOk_by (N := nWW) (sc := defScope sWW) (by decide +kernel)) (fun _ _ _ _ _ => pg_name (i := 6) scWW.nd rfl (Or.inl rfl)) (fun _ _ _ _ _ => pts_nil)
          (fun _ _ _ _ _ => pe_ifExp (pt_cmpR op_isN (pv 6) pe_non (nomark _)) pe_non (pe_ix (r := rIxL K) ix_list (pv 2) (pv 6) (fun _ _ => rfl)))) pa_nil)) rfl)))
      (pss_one (ps_ret (pe_lamP (k := 3) (b := "group") (N := nWL) (fr := ["merged"]) (js := [3]) (T := T) rfl mN kN lkN hcN bN scNB rfl (.inl rfl) (gives_numI ml mt) TB rfl hT hu hr
        (nscope_by (by decide +kernel)) (free_by (sc := defScope sWW) (by decide +kernel)) (by decide +kernel) rfl rfl (fun _ _ _ _ _ _ => rfl) (pe_ix ix_list (pv 2) pe_int (fun _ _ => rfl)) rfl
        (fun A2 o2 s2 H2 f2 c2 hr2 => pe_dget (room1 hr2) (pv 1) (pv 0) (fun _ _ => rfl))))))))), ?_⟩
    refine ⟨_, rfl, r, p, ys, lo, hi, sp, rfl, hR, hok, h10, h4, hTab, fun p1 W1 G1 e1 T1 n1 raw hW g1 => ?_⟩
    refine ⟨p1, W1, rfl, g1, raw.closed, hW, fun n p2 G2 s2 g2 hfix => ?_⟩
    have cut := isCut_of raw.closed hfix
    generalize cutN W1 n = C at g2 cut
    have hcC := cut.closed raw.closed
    have hlC : C.length ≤ 10000 := by
      rw [cut.len]
      exact hW
    have h0 : 0 < C.length := by
      rw [cut.len]
      exact raw.pos
    obtain ⟨ts, hts, hpr⟩ := id g2
    have htl : ts.length = C.length := Paired.length hpr
    have up2 : ∀ b o, H b = some o → (∀ ps, o ≠ .tbl ps) → G2 b = some o := fun b o e n => s2 _ _ (e1 b o e n)
    have ec : C[0]? = some C[0] := List.getElem?_eq_getElem h0
    have et : ts[0]? = some ts[0] := List.getElem?_eq_getElem (by omega)
    have htt := paired_get hpr et ec
    refine ⟨_, rfl, p2, _, 0, .ref ts[0], rfl, rfl, SqL.of hts, atI_nat (j := 0) (by rw [List.getElem?_map, et]; rfl), prD C[0], prD dead, dp_pr htt, .tup (hD _) (.cons .non (.cons .non .nil)), shaped_pr _, shaped_pr _, _, rfl, ?_⟩
    rw [eqv_pr]
    by_cases hdd : C[0] = dead
    · rw [decide_eq_true hdd]
      have nl : ¬ Lst (lawR ys lo hi sp) [] := (raw.dead cut).mp (by rw [ec, hdd])
      refine iteT ⟨by show 0 ≤ sizeLine; decide, fun l nl2 => q l [] _ (fun b o e n => same_new nl2 _ _ (up2 b o e n)) ((T1.ext s2).ext (same_new nl2)) (fun b o e n z => ?_) (WebOf.empty nl) (Nat.zero_le _) ⟨[], upd_same, .nil⟩⟩
      have := up2 b o e n
      rw [z, nl2] at this
      cases this
    · rw [decide_eq_false hdd]
      have l0 : Lst (lawR ys lo hi sp) [] := Classical.byContradiction fun z => hdd (Option.some.inj (ec.symm.trans ((raw.dead cut).mpr z)))
      refine iteF ⟨_, rfl, p2, C, rfl, g2, hcC, h0, hlC, fun fg lg G3 s3 nlg hlg hf => fun dm ndm => ?_⟩
      have s23 := s2.trans s3
      have g3 : GrAt G3 p2 C := g2.keep (fun xs e => s3 _ _ e) fun b ys e => s3 _ _ e
      have hts3 := s3 _ _ hts
      have nl : (numsV fg C.length).length = C.length := numsV_len _ _
      have tl2 : (ts.map V.ref).length = C.length := by rw [List.length_map, htl]
      refine ⟨fun σ G => ∃ (kvs : List (Key × V)) (y4 y5 : Option V), σ = [some (.ref r), some (.ref p2), some (.ref lg), some (.ref dm), y4, y5, none] ∧ Same G3 G ∧ G dm = some (.dK kvs) ∧ ∀ j, j < C.length → ∃ T, valV kvs (.inl (fg j : Int)) = some (.ref T) ∧ G T = some (.tup [oV ((goG C j false).map fg), oV ((goG C j true).map fg)]), ?_, ?_⟩
      · have sd : Same G3 (upd G3 dm (.dK [])) := same_new ndm
        refine ⟨_, rfl, _, rfl, .lst lg, .lst p2, _, _, rfl, SqL.of (sd _ _ hlg), SqL.of (sd _ _ hts3), ?_⟩
        refine for_it (walk_zipD (xs := numsV fg C.length) (ys := ts.map V.ref) (n := C.length) (by rw [nl, tl2]; exact (Nat.min_self _).symm)) (fun i σ G => ∃ (kvs : List (Key × V)) (y4 y5 : Option V), σ = [some (.ref r), some (.ref p2), some (.ref lg), some (.ref dm), y4, y5, none] ∧ Same G3 G ∧ G dm = some (.dK kvs) ∧ kvs.length ≤ i ∧ ∀ j, j < i → ∃ T, valV kvs (.inl (fg j : Int)) = some (.ref T) ∧ G T = some (.tup [oV ((goG C j false).map fg), oV ((goG C j true).map fg)]))
          ⟨[], none, none, rfl, sd, upd_same, Nat.le_refl _, fun j hj => absurd hj (Nat.not_lt_zero _)⟩ (fun i σ G _ ⟨kvs, y4, y5, _, sg, _⟩ => ⟨SqL.of (sg _ _ hlg), SqL.of (sg _ _ hts3)⟩) (fun i v σ G G' hi h y => ?_) (fun σ G h => ?_)
        · obtain ⟨kvs, y4, y5, rfl, sg, hdm, hkl, hval⟩ := h
          obtain ⟨T, xk, xt, rfl, nT, rfl, e5, e6⟩ := y
          have e5 : (numsV fg C.length)[i]? = some xk := e5
          rw [numsV_get fg hi] at e5
          obtain rfl : V.int (fg i : Nat) = xk := Option.some.inj e5
          have e6 : (ts.map V.ref)[i]? = some xt := e6
          have eti : ts[i]? = some ts[i] := List.getElem?_eq_getElem (by omega)
          rw [List.getElem?_map, eti] at e6
          obtain rfl : V.ref ts[i] = xt := Option.some.inj e6
          have eci : C[i]? = some C[i] := List.getElem?_eq_getElem hi
          have hti := paired_get hpr eti eci
          generalize C[i] = pr at eci hti
          generalize ts[i] = t at eti hti
          have gp : ∀ b, goG C i b = pick pr b := fun b => by
            unfold goG
            rw [eci]
            rfl
          have sT : Same G (upd G T (.tup [.int (fg i : Nat), .ref t])) := same_new nT
          have s3T := sg.trans sT
          have hti3 := s3T _ _ (s3 _ _ hti)
          refine ⟨T, _, rfl, SqT.of upd_same, rfl, _, _, rfl, _, _, rfl, rfl, ?_⟩
          refine ⟨_, rfl, t, rfl, ⟨_, SqT.of hti3⟩, fun D nD => ?_⟩
          generalize hGT : upd G T (.tup [.int (fg i : Nat), .ref t]) = GT at *
          refine lc_tup (K := K) (a := t) (xs := [oV pr.1, oV pr.2]) (fun j G5 => Same GT G5 ∧ G5 D = some (.lst ([oV (pr.1.map fg), oV (pr.2.map fg)].take j))) ⟨same_new nD, upd_same⟩ (fun j G5 _ h => SqT.of (h.1 _ _ hti3)) (fun j v G5 hv h => ?_) (fun G5 h => ?_)
          · obtain ⟨s5, h5⟩ := h
            have hj : j < 2 := (List.getElem?_eq_some_iff.mp hv).1
            obtain ⟨o, rfl, eo, ow⟩ : ∃ o, v = oV o ∧ (∀ g, o = some g → g < C.length) ∧ [oV (pr.1.map fg), oV (pr.2.map fg)][j]? = some (oV (o.map fg)) := by
              have cl2 : ∀ b g, pick pr b = some g → g < C.length := fun b g e => hcC i b g (by rw [gp]; exact e)
              rcases (show j = 0 ∨ j = 1 by omega) with rfl | rfl
              · cases hv
                exact ⟨_, rfl, cl2 false, rfl⟩
              · cases hv
                exact ⟨_, rfl, cl2 true, rfl⟩
            have fin : ∀ y, y = oV (o.map fg) → ∃ acc, G5 D = some (.lst acc) ∧ acc.length < sizeLine ∧ (Same GT (upd G5 D (.lst (acc ++ [y]))) ∧ upd G5 D (.lst (acc ++ [y])) D = some (.lst ([oV (pr.1.map fg), oV (pr.2.map fg)].take (j + 1)))) := fun y ey => by
              refine ⟨_, h5, ?_, same_put s5 nD, ?_⟩
              · rw [List.length_take]
                exact Nat.lt_of_le_of_lt (Nat.min_le_right _ _) (by show 2 < sizeLine; decide)
              · rw [upd_same, List.take_add_one, ow, ey]
                rfl
            cases o with
            | none => exact ⟨rfl, _, rfl, rfl, _, rfl, iteT (fin .non rfl)⟩
            | some g => exact ⟨rfl, _, rfl, rfl, _, rfl, iteF ⟨_, rfl, _, rfl, lg, _, _, .int (fg g : Nat), rfl, rfl, SqL.of (s5 _ _ (s3T _ _ hlg)), atI_nat (numsV_get fg (eo g rfl)), fin _ rfl⟩⟩
          · obtain ⟨s5, h5⟩ := h
            refine ⟨D, _, rfl, .inl ⟨SqL.of h5, fun T2 nT2 => ?_⟩⟩
            have s6 := s5.trans (same_new (o := .tup ([oV (pr.1.map fg), oV (pr.2.map fg)].take 2)) nT2)
            have sg6 := sT.trans s6
            have hdm6 := sg6 _ _ hdm
            have td : T2 ≠ dm := fun z => by
              rw [z, s5 _ _ (sT _ _ hdm)] at nT2
              cases nT2
            refine ⟨_, rfl, _, rfl, dm, _, rfl, DPut.k (k := .inl (fg i : Int)) hdm6 (Nat.lt_of_le_of_lt hkl (smallB (by omega))), putK kvs (.inl (fg i : Int)) (.ref T2), _, _, rfl, ?_, upd_same, ?_, fun j hj => ?_⟩
            · exact same_put (sg.trans sg6) ndm
            · have := length_putK kvs (.inl (fg i : Int)) (.ref T2)
              omega
            · rw [valV_put]
              have hjC : j < C.length := by omega
              by_cases ef : fg j = fg i
              · refine ⟨T2, by rw [ef, if_pos rfl], ?_⟩
                rw [same_map hcC hf hjC hi ef, same_map hcC hf hjC hi ef, gp, gp, upd_ne td, upd_same]
                rfl
              · have hji : j < i := by
                  rcases Nat.lt_succ_iff_lt_or_eq.mp hj with z | z
                  · exact z
                  · exact absurd (by rw [z]) ef
                obtain ⟨T0, h7, h8⟩ := hval j hji
                refine ⟨T0, by rw [if_neg (inl_ne ef)]; exact h7, ?_⟩
                rw [upd_ne (fun z => by rw [z, hdm] at h8; cases h8)]
                exact sg6 _ _ h8
        · obtain ⟨kvs, y4, y5, h1, h2, h3, _, h5⟩ := h
          exact ⟨kvs, y4, y5, h1, h2, h3, h5⟩
      · rintro _ G ⟨kvs, y4, y5, rfl, sg, hdm, hval⟩
        refine ⟨_, rfl, lg, _, 0, .int (fg 0 : Nat), rfl, rfl, SqL.of (sg _ _ hlg), atI_nat (j := 0) (numsV_get fg h0), ((T1.ext s23).ext sg), fun H3 e3 T3 => ?_⟩
        have up3 : ∀ b o, H b = some o → (∀ ps, o ≠ .tbl ps) → H3 b = some o := fun b o e n => e3 b o (sg _ _ (s3 _ _ (up2 b o e n))) n
        have hdm3 : H3 dm = some (.dK kvs) := e3 _ _ hdm (fun _ z => nomatch z)
        refine ⟨stG C fg, fun g => ∃ i, i < C.length ∧ fg i = g, (List.range C.length).map fg, fg 0, rfl, ⟨0, h0, rfl⟩, by rw [List.length_map, List.length_range]; exact hlC, ?_, ?_, ?_, ?_⟩
        · rintro g ⟨i, hi, rfl⟩
          exact List.mem_map.mpr ⟨i, List.mem_range.mpr hi, rfl⟩
        · rintro g c g' ⟨i, hi, rfl⟩ e
          rw [stG_is hcC hf hi] at e
          cases eg : goG C i c with
          | none =>
            rw [eg] at e
            cases e
          | some a =>
            rw [eg] at e
            exact ⟨a, hcC i c a eg, Option.some.inj e⟩
        · rintro G4 g Q' s4 ⟨i, hi, rfl⟩ hq
          obtain ⟨T, h5, h6⟩ := hval i hi
          have h7 : G4 T = some (.tup [oV (stG C fg (fg i) false), oV (stG C fg (fg i) true)]) := by
            rw [stG_is hcC hf hi, stG_is hcC hf hi]
            exact s4 _ _ (e3 _ _ h6 (fun _ z => nomatch z))
          refine ⟨_, rfl, _, rfl, dm, .ref T, rfl, ?_, hq T G4 (fun _ _ e => e) h7⟩
          have := DGet.k (k := .inl (fg i : Int)) (s4 _ _ hdm3)
          rw [h5] at this
          exact this
        · intro R2 W2 p3 G4 d hW2 s4 np hg
          refine q p3 W2 G4 (fun b o e n => s4 _ _ (up3 b o e n)) (T3.ext s4) (fun b o e n z => ?_) (web_grp raw cut l0 hf (fun i c hi => stG_is hcC hf hi c) d) hW2 hg
          have := up3 b o e n
          rw [z, np] at this
          cases this
end
end K28

set_option Elab.async false
set_option linter.all false
set_option maxRecDepth 100000
set_option maxHeartbeats 4000000
namespace K28
open PySem PySem.Spec PyProof.Rows L2 Pw TL
section
open LamX NdefX
variable {P : Program} {w : World} {K : PySem.W.Frag} {mg : Str → Option Value} {base : Heap}
/-! web -/
abbrev sWB : Stmt := topS 35
abbrev nWB : List Str := ["rule", "stands"]
theorem scWB : FnScope nWB ["rule"] (defScope sWB) := ⟨rfl, rfl, rfl, by decide +kernel, rfl, by decide +kernel, by decide +kernel⟩
def okWide : V → Prop := fun v => ∃ i : Nat, v = .int (i : Nat) ∧ i ≤ 100000
def spWB (R C : Addr) (T : List (Addr × Str)) : Sp := fun vs H Q E => ∃ (r p : Addr) (ys : List Str) (lo : Int) (hi sp : Option Int), vs = [.ref r] ∧ RuleAt H R r p ys lo hi sp ∧ RuleOk ys lo hi sp ∧ ys.length ≤ 10 ∧ (∀ s, sp = some s → s ≤ 4) ∧ Tabs T H ∧
  ∀ W : Gr, WebOf (lawR ys lo hi sp) W → W.length ≤ 10000 → (W.length ≤ 40 → ∀ (p : Addr) (G : Hp), ExtN H G → Tabs T G → NewN H p → GrAt G p W → Q (.ref p) G) ∧
    (40 < W.length → ∀ (d : Addr) (G : Hp), ExtN H G → Tabs T G → G d = some (.xd [("stands", .int (W.length : Nat))]) → E (.ref C) (some d) G)
theorem ok_wb {f fW R C : Addr} {fd fdW : FuncData} {T : List (Addr × Str)} (F : Fun K "web" "web" sWB f fd) (TE2 : ErrOk P w K mg base "TooWide" "stands" C okWide) (ml : mg "len" = none) (NM : ∃ u, mg "MOST_STANDS" = some u ∧ RelV (.int 40) u)
    (GW : FnOk P w K mg base CX0 6 fW fdW ["rule"] (spWW R T)) (wm : mg "whole_web" = some (.ref fW)) (wk : PySem.W.keepIn K (.ref fW) = true) (wb : Binds K fdW ["rule"] []) :
    FnOk P w K mg base (L2.CX P w) 7 f fd ["rule"] (spWB R C T) := by
  obtain ⟨uM, mM, rM⟩ := NM
  refine F.okX scWB (fun vs H Q E h => ?_) (fun cdv A outer s H vs Q E hr h => ?_)
  · obtain ⟨r, p, ys, lo, hi, sp, rfl, _⟩ := h
    rfl
  · obtain ⟨r, p, ys, lo, hi, sp, rfl, hR, hok, h10, h4, hTab, q⟩ := h
    refine ⟨_, pss_cons (ps_set (i := 1) scWB.nd rfl (.inl rfl) (pe_call GW hr rfl wm wk wb .nil pass0 (pa_cons (pv 0) pa_nil)))
      (pss_cons (ps_if (pt_cmpR op_gt (pe_callB call_len_seq (by rfl) ml PySem.boot_len (pa_cons (pv 1) pa_nil)) (pe_glob rfl mM rM) (nomark _)) (pss_one (ps_raise rfl (takes_of rfl rfl rfl rfl) (pmk_err TE2 (hr.mono (by decide)) rfl (pe_callB call_len_seq (by rfl) ml PySem.boot_len (pa_cons (pv 1) pa_nil))))) pss_nil)
      (pss_one (ps_ret (pv 1)))), ?_⟩
    refine ⟨_, rfl, r, p, ys, lo, hi, sp, rfl, hR, hok, h10, h4, hTab, fun p1 W G e1 T1 n1 hw hW g1 => ?_⟩
    obtain ⟨q1, q2⟩ := q W hw hW
    obtain ⟨ts, hts, hpr⟩ := id g1
    have htl : (ts.map V.ref).length = W.length := by
      rw [List.length_map]
      exact Paired.length hpr
    refine ⟨_, rfl, p1, _, rfl, .inl (SqL.of hts), _, _, rfl, rfl, _, rfl, ?_⟩
    rw [htl]
    by_cases h40 : 40 < W.length
    · rw [decide_eq_true (by omega)]
      refine iteT ⟨_, rfl, p1, _, rfl, .inl (SqL.of hts), ?_⟩
      rw [htl]
      refine err_read ⟨W.length, rfl, by omega⟩ fun d G2 s2 nd e2 => ?_
      exact q2 h40 d G2 (fun b o e n => s2 _ _ (e1 b o e n)) (T1.ext s2) e2
    · rw [decide_eq_false (by omega)]
      exact iteF ⟨_, rfl, q1 (by omega) p1 G e1 T1 n1 g1⟩
end
end K28

set_option Elab.async false
set_option linter.all false
set_option maxRecDepth 100000
set_option maxHeartbeats 4000000
namespace K28
open PySem PySem.Spec PyProof.Rows L2 Pw TL
section
variable {P : Program} {w : World} {K : PySem.W.Frag} {mg : Str → Option Value} {base : Heap}
/-! _law_key -/
abbrev sKY : Stmt := topS 61
abbrev nKY : List Str := ["_law_r", "_law_row_here", "_law_sums_here", "_law_still", "_law_both"]
theorem scKY : FnScope nKY ["_law_r", "_law_row_here"] (defScope sKY) := ⟨rfl, rfl, rfl, by decide +kernel, rfl, by decide +kernel, by decide +kernel⟩
def KyAt (H : Hp) (k : Addr) (s : Ky) : Prop := ∃ e : Str, H k = some (.tup [.str e, .int (s.2.1 : Nat), .bl s.2.2.1, .int s.2.2.2.1, .int s.2.2.2.2]) ∧ tl e = s.1
theorem tz_strip (x : Str) : (x.length : Int) - ((Txt.rstripChars x (Str.ofString "0")).length : Int) = (tz (tl x) : Nat) := by
  unfold Txt.rstripChars
  rw [PyProof.Rows.stripBy_eq]
  have e1 : PySem.stripLo (Str.ofString "0").cps.contains false x = 0 := rfl
  rw [e1]
  have e2 : PySem.stripHi (Str.ofString "0").cps.contains true x 0 = x.length - tz (tl x) := by
    show x.length - ((x.cps.toList.drop 0).reverse.takeWhile (Str.ofString "0").cps.contains).length = _
    rw [List.drop_zero]
    have e3 : (Str.ofString "0").cps.contains = fun c : Nat => c == 48 := by
      funext c
      rw [show (Str.ofString "0").cps = #[48] from rfl]
      simp
      rfl
    rw [e3]
    rfl
  rw [e2, size_strSub _ _ _ (Nat.sub_le _ _), Nat.sub_zero]
  have hle : tz (tl x) ≤ x.length := by
    unfold tz
    have := (List.takeWhile_sublist (l := (tl x).reverse) (· == 48)).length_le
    rw [List.length_reverse] at this
    rw [len_tl]
    exact this
  omega
theorem last_cut (x : Str) : tl (cutS x (some (-4)) none) = last4 (tl x) := by
  unfold cutS
  rw [tl_mk]
  have e1 : HT.sIx x.length 0 (some (-4)) = x.length - 4 := by
    show (if (-4 : Int) < 0 then ((-4 : Int) + (x.length : Int)).toNat else min (-4 : Int).toNat x.length) = _
    rw [if_pos (by decide)]
    omega
  rw [e1]
  show List.take (x.length - (x.length - 4)) (List.drop (x.length - 4) (tl x)) = _
  unfold last4
  rw [len_tl]
  exact List.take_of_length_le (by rw [List.length_drop]; exact Nat.le_refl _)
def spKY : Sp := fun vs H Q _ => ∃ (T t : Addr) (xs : List Str) (lo : Int) (hi wd : Option Int) (x : Str), vs = [.ref T, .str x] ∧ Parts H T t xs lo hi wd ∧ Pw.Pure (tl x) ∧ (tl x).length ≤ 20000 ∧
  ∀ (k : Addr) H', Same H H' → H k = none → KyAt H' k (tauK wd (tl x)) → Q (.ref k) H'
theorem ok_ky {f fS : Addr} {fd fdS : FuncData} (F : Fun K "_law_key" "_law_key" sKY f fd) (B : BN mg) (GS : FnOk P w K mg base CX0 1 fS fdS ["_law_row_here"] spSU) (sm : mg "_law_sums" = some (.ref fS)) (sk : PySem.W.keepIn K (.ref fS) = true) (sb : Binds K fdS ["_law_row_here"] []) :
    FnOk P w K mg base CX0 2 f fd ["_law_r", "_law_row_here"] spKY := by
  refine F.ok scKY (fun vs H Q E h => ?_) (fun cdv A outer s H vs Q E hr h => ?_)
  · obtain ⟨T, t, xs, lo, hi, wd, x, rfl, _⟩ := h
    rfl
  · obtain ⟨T, t, xs, lo, hi, wd, x, rfl, hP, hp, hl, q⟩ := h
    refine ⟨_, pss_cons (ps_set (i := 2) scKY.nd rfl (.inl rfl) (pe_call GS hr rfl sm sk sb .nil pass0 (pa_cons (pv 1) pa_nil)))
      (pss_cons (ps_set (i := 3) scKY.nd rfl (.inl rfl) (pe_callB (call_min2 rfl) (by rfl) B.min (by decide +kernel) (pa_cons pe_int (pa_cons (pe_op op_sub (pe_callB call_len_str (by rfl) B.len PySem.boot_len (pa_cons (pv 1) pa_nil))
          (pe_callB call_len_str (by rfl) B.len PySem.boot_len (pa_cons (pe_bm PySem.F.plainAttrs_str PySem.F.slot_str_rstrip PySem.F.type_str_rstrip mt_rstripChars (pv 1) (pa_cons pe_str pa_nil)) pa_nil))) pa_nil))))
      (pss_cons (ps_set (i := 4) scKY.nd rfl (.inl rfl) (pe_tup (pa_cons (pe_op op_sub (pe_callB (cr_max rfl) (by rfl) B.max (by decide +kernel) (pa_cons (pv 2) pa_nil)) (pe_ix ix_list (pv 2) (pe_un un_neg pe_int) (fun _ _ => rfl)))
          (pa_cons (pe_op op_sub (pe_ix ix_list (pv 2) (pe_un un_neg pe_int) (fun _ _ => rfl)) (pe_callB (cr_min rfl) (by rfl) B.min (by decide +kernel) (pa_cons (pv 2) pa_nil))) pa_nil))))
      (pss_one (ps_ret (pe_op op_catT (pe_tup (pa_cons (pe_slice sl_str (pv 1) (po_some (pe_un un_neg pe_int)) po_none) (pa_cons (pv 3) (pa_cons (pe_cmpR op_in_str pe_str (pv 1) (by rfl)) pa_nil))))
          (pe_ifExp (pt_cmpR op_notN (pe_ix ix_tup (pv 0) pe_int (fun _ _ => rfl)) pe_non (nomark _)) (pv 4) (pe_tup (pa_cons pe_int (pa_cons pe_int pa_nil)))))))))  , ?_⟩
    have lx : x.length = (tl x).length := len_tl x
    have hz : x.length ≤ sizeLine := by
      rw [lx]
      exact Nat.le_trans hl (by decide)
    refine ⟨_, rfl, x, rfl, hl, hp, fun H1 ps s1 n1 h1 => ?_⟩
    have ls := PyProof.Rows.stripBy_eq (Str.ofString "0").cps.contains false true x
    have hrz : (Txt.rstripChars x (Str.ofString "0")).length ≤ sizeLine := by
      have := tz_strip x
      omega
    refine ⟨_, rfl, x, rfl, hz, _, rfl, rfl, x, _, rfl, rfl, hz, _, rfl, hrz, _, _, rfl, rfl, 8, _, rfl, ?_⟩
    rw [tz_strip]
    have em : (if ((tz (tl x) : Nat) : Int) < 8 then ((tz (tl x) : Nat) : Int) else 8) = ((min 8 (tz (tl x)) : Nat) : Int) := by
      split <;> omega
    rw [em]
    obtain ⟨⟨mx1, mx2⟩, mn1, mn2⟩ := hiS_top (tl x)
    have hne : 0 < (sums (tl x)).length := by
      rw [sums_len]
      omega
    have hlast : atI ((sums (tl x)).map V.int) (-1) = some (.int (hiS (tl x)).1) := by
      have e : sums (tl x) = (List.range (tl x).length).map (fun i => (hiS ((tl x).take i)).1) ++ [(hiS (tl x)).1] := by
        unfold sums
        rw [List.range_succ, List.map_append]
        show _ ++ [(hiS ((tl x).take (tl x).length)).1] = _
        rw [List.take_length]
      rw [e, List.map_append]
      exact atI_last _ _
    have hq1 := SqL.of (K := K) h1
    refine ⟨_, rfl, ps, _, rfl, hq1, hne, fun m h2 h3 => ?_⟩
    obtain rfl : m = (hiS (tl x)).2.1 := IsMax.eq ⟨h2, h3⟩ ⟨mx1, mx2⟩
    refine ⟨_, rfl, 1, rfl, ps, _, -1, _, rfl, rfl, hq1, hlast, _, _, rfl, rfl, _, rfl, 1, rfl, ps, _, -1, _, rfl, rfl, hq1, hlast, _, rfl, ps, _, rfl, hq1, hne, fun m h4 h5 => ?_⟩
    obtain rfl : m = (hiS (tl x)).2.2 := Int.le_antisymm (h5 _ mn1) (mn2 _ h4)
    refine ⟨_, _, rfl, rfl, by show 2 ≤ sizeLine; decide, fun bt nb => ?_⟩
    have s2 := s1.trans (same_new (o := .tup [.int ((hiS (tl x)).2.1 - (hiS (tl x)).1), .int ((hiS (tl x)).1 - (hiS (tl x)).2.2)]) nb)
    have hin : (!(Builtin.Str.occurrences x (Str.ofString "1") 0 x.length 1).isEmpty) = has1 (tl x) := by
      rw [in_has (by show [49] ≠ []; decide), Bool.eq_iff_iff, fEnd_some (by show [49] ≠ []; decide)]
      unfold has1
      rw [List.contains_iff_mem, has_infix]
      show [49] <:+: tl x ↔ _
      constructor
      · intro h
        exact h.subset (List.mem_singleton.mpr rfl)
      · intro h
        obtain ⟨a, b, e⟩ := List.append_of_mem h
        exact ⟨a, b, by rw [e]; simp⟩
    refine ⟨_, rfl, 4, rfl, _, rfl, x, rfl, hz, _, rfl, _, rfl, _, _, rfl, rfl, ?_⟩
    rw [hin]
    refine ⟨by show 3 ≤ sizeLine; decide, fun tt nt => ?_⟩
    have s3 := s2.trans (same_new (o := .tup [.str (cutS x (some (-4)) none), .int ((min 8 (tz (tl x)) : Nat) : Int), .bl (has1 (tl x))]) nt)
    refine ⟨_, rfl, T, _, 3, vI wd, rfl, rfl, SqT.of (s3 _ _ hP.1), rfl, ?_⟩
    cases wd with
    | none =>
      refine ⟨rfl, _, rfl, iteF ⟨by show 2 ≤ sizeLine; decide, fun zt nz => ?_⟩⟩
      have s4 := s3.trans (same_new (o := .tup [.int 0, .int 0]) nz)
      refine ⟨tt, zt, _, _, rfl, rfl, SqT.of (same_new nz _ _ upd_same), SqT.of upd_same, by simp, by show 5 ≤ sizeLine; decide, (fun z => nomatch z), fun _ kk nk => q kk _ (s4.trans (same_new nk)) (s4.free nk) ⟨_, upd_same, last_cut x⟩⟩
    | some v =>
      refine ⟨rfl, _, rfl, iteT ⟨_, rfl, tt, bt, _, _, rfl, rfl, SqT.of upd_same, SqT.of (same_new nt _ _ upd_same), by simp, by show 5 ≤ sizeLine; decide, (fun z => nomatch z), fun _ kk nk => q kk _ (s3.trans (same_new nk)) (s3.free nk) ⟨_, upd_same, last_cut x⟩⟩⟩
end
end K28

set_option Elab.async false
set_option linter.all false
set_option maxRecDepth 100000
set_option maxHeartbeats 4000000
namespace K28
open PySem PySem.Spec PyProof.Rows L2 Pw TL
section
variable {P : Program} {w : World} {K : PySem.W.Frag} {mg : Str → Option Value} {base : Heap}
/-! _law_raw -/
abbrev sRA : Stmt := topS 62
abbrev nRA : List Str := ["_law_r", "_law_rows", "_law_numbers", "_law_found", "_law_at", "_law_pair", "_law_sign", "_law_text", "_law_goal", "_law_key_here"]
theorem scRA : FnScope nRA ["_law_r"] (defScope sRA) := ⟨rfl, rfl, rfl, by decide +kernel, rfl, by decide +kernel, by decide +kernel⟩
/-- a graph whose pairs are lists -/
def GrL (H : Hp) (p : Addr) (W : Gr) : Prop := ∃ ts : List Addr, H p = some (.lst (ts.map V.ref)) ∧ Paired (fun t (pr : Pr) => H t = some (.lst [oV pr.1, oV pr.2])) ts W
def keyK (s : Ky) : List Leaf := [.text ⟨s.1.toArray⟩, .num (s.2.1 : Nat), .num (if s.2.2.1 = true then 1 else 0), .num s.2.2.2.1, .num s.2.2.2.2]
theorem keyK_inj {s s' : Ky} (h : keyK s = keyK s') : s = s' := by
  obtain ⟨a, b, c, d, e⟩ := s
  obtain ⟨a', b', c', d', e'⟩ := s'
  unfold keyK at h
  simp only [List.cons.injEq, Leaf.text.injEq, Leaf.num.injEq, and_true] at h
  obtain ⟨h1, h2, h3, h4, h5⟩ := h
  have h1 : (⟨a.toArray⟩ : Str) = ⟨a'.toArray⟩ := h1
  have h1 : a.toArray = a'.toArray := by injection h1
  have h1 : a = a' := by simpa using congrArg Array.toList h1
  have h2 : b = b' := Int.ofNat.inj h2
  have h3 : c = c' := by
    cases c <;> cases c' <;> first | rfl | simp at h3
  rw [h1, h2, h3, h4, h5]
theorem KyAt.leaf {G : Hp} {t : Addr} {s : Ky} (h : KyAt G t s) : ∃ vs, G t = some (.tup vs) ∧ LfVs vs (keyK s) := by
  obtain ⟨e, a, b⟩ := h
  refine ⟨_, a, ?_⟩
  have ee : (⟨s.1.toArray⟩ : Str) = e := tl_eq (by rw [b])
  unfold keyK
  rw [ee]
  exact .cons (.str e) (.cons (.int _) (.cons (.bl _) (.cons (.int _) (.cons (.int _) .nil))))
theorem kyU_len (wd : Option Int) (h : ∀ s, wd = some s → s ≤ 4) : (kyU wd).length ≤ 14000 := by
  have a2 : spanN wd + 1 ≤ 5 := by
    cases wd with
    | none => decide
    | some v =>
      have := h v rfl
      show v.toNat + 1 ≤ 5
      omega
  have e : (kyU wd).length = 31 * (9 * (2 * ((spanN wd + 1) * (spanN wd + 1)))) := by
    unfold kyU swU
    rw [List.length_flatMap]
    simp only [List.length_map, List.length_flatMap, List.length_range]
    rw [List.map_const', List.sum_replicate_nat, List.map_const', List.sum_replicate_nat, List.length_range, List.map_const', List.sum_replicate_nat, List.map_const', List.sum_replicate_nat, List.length_range]
    rfl
  rw [e]
  exact Nat.le_trans (Nat.mul_le_mul_left _ (Nat.mul_le_mul_left _ (Nat.mul_le_mul_left _ (Nat.mul_le_mul a2 a2)))) (by decide)
/-- what has been reached: rows with their keys, the dict of numbers, the list of texts -/
structure St3 (P : Program) (w : World) (wd : Option Int) (H G : Hp) (dn rn : Addr) (xs : List (List Bool)) (ws : List Str) (kvs : List (List Leaf × V)) : Prop where
  dx : DX P w G dn kvs
  val : ∀ s, valV kvs (keyK s) = if s ∈ xs.map (fun x => tauK wd (rwS x)) then some (.int (posn (xs.map fun x => tauK wd (rwS x)) s : Nat)) else none
  kl : kvs.length ≤ xs.length
  rl : G rn = some (.lst (ws.map V.str))
  tx : ws.map tl = xs.map rwS
  sm : Same H G
  nd : H dn = none
  nr : H rn = none
abbrev kys (wd : Option Int) (xs : List (List Bool)) : List Ky := xs.map fun x => tauK wd (rwS x)
theorem St3.dne {wd : Option Int} {H G : Hp} {dn rn b : Addr} {xs : List (List Bool)} {ws : List Str} {kvs : List (List Leaf × V)} {o : HO} (h : St3 P w wd H G dn rn xs ws kvs) (e : G b = some o) (k : (∃ xs, o = .lst xs) ∨ ∃ xs, o = .tup xs) : b ≠ dn := fun z => by
  obtain ⟨xs, hx⟩ := dx_at h.dx
  rw [z, hx] at e
  rcases k with ⟨ys, rfl⟩ | ⟨ys, rfl⟩ <;> cases e
theorem St3.more {wd : Option Int} {H G G' : Hp} {dn rn : Addr} {xs : List (List Bool)} {ws : List Str} {kvs : List (List Leaf × V)} (h : St3 P w wd H G dn rn xs ws kvs) (s : Same G G') : St3 P w wd H G' dn rn xs ws kvs :=
  ⟨h.dx.same s, h.val, h.kl, s _ _ h.rl, h.tx, h.sm.trans s, h.nd, h.nr⟩
theorem St3.other {wd : Option Int} {H G : Hp} {dn rn b : Addr} {xs : List (List Bool)} {ws : List Str} {kvs : List (List Leaf × V)} {o : HO} (h : St3 P w wd H G dn rn xs ws kvs) (bd : b ≠ dn) (br : b ≠ rn) (nb : H b = none) (nt : ∀ ys, G b ≠ some (.tup ys)) : St3 P w wd H (upd G b o) dn rn xs ws kvs := by
  refine ⟨h.dx.keep fun c u e k => ?_, h.val, h.kl, ?_, h.tx, same_put h.sm nb, h.nd, h.nr⟩
  · rcases k with z | ⟨ys, z⟩
    · rw [z, upd_ne (fun z => bd z.symm)]
      rw [z] at e
      exact e
    · rw [z] at e
      rw [z, upd_ne (fun z2 => nt ys (by rw [← z2]; exact e))]
      exact e
  · rw [upd_ne (fun z => br z.symm)]
    exact h.rl
theorem St3.put {wd : Option Int} {H G : Hp} {dn rn : Addr} {xs : List (List Bool)} {ws : List Str} {kvs : List (List Leaf × V)} {x : List Bool} {y : Str} {ob : HO} (h : St3 P w wd H G dn rn xs ws kvs) (hs : tauK wd (rwS x) ∉ kys wd xs) (hy : tl y = rwS x) (d : DX P w (upd G dn ob) dn (putK kvs (keyK (tauK wd (rwS x))) (.int (xs.length : Nat)))) :
    St3 P w wd H (upd (upd G dn ob) rn (.lst (ws.map V.str ++ [.str y]))) dn rn (xs ++ [x]) (ws ++ [y]) (putK kvs (keyK (tauK wd (rwS x))) (.int (xs.length : Nat))) := by
  have rd : rn ≠ dn := h.dne h.rl (.inl ⟨_, rfl⟩)
  have ek : kys wd (xs ++ [x]) = kys wd xs ++ [tauK wd (rwS x)] := List.map_append ..
  have lk : (kys wd xs).length = xs.length := List.length_map ..
  refine ⟨d.keep fun b o e k => ?_, fun s' => ?_, ?_, ?_, ?_, same_put (same_put h.sm h.nd) h.nr, h.nd, h.nr⟩
  · have bn : b ≠ rn := by
      rcases k with z | ⟨ys, z⟩
      · rw [z]
        exact fun z => rd z.symm
      · intro z2
        rw [z2, upd_ne rd, h.rl, z] at e
        cases e
    rw [upd_ne bn]
    exact e
  · show _ = if s' ∈ kys wd (xs ++ [x]) then some (V.int (posn (kys wd (xs ++ [x])) s' : Nat)) else none
    rw [valV_put, ek]
    by_cases c : keyK s' = keyK (tauK wd (rwS x))
    · rw [if_pos c, keyK_inj c, if_pos (List.mem_append_right _ (List.mem_singleton.mpr rfl)), posn_new hs, lk]
    · have ne : s' ≠ tauK wd (rwS x) := fun z => c (by rw [z])
      rw [if_neg c, h.val]
      by_cases m : s' ∈ kys wd xs
      · rw [if_pos m, if_pos (List.mem_append_left _ m), posn_pre (List.prefix_append _ _) m]
      · rw [if_neg m, if_neg (fun z => (List.mem_append.mp z).elim m fun z => ne (List.mem_singleton.mp z))]
  · have := length_putK kvs (keyK (tauK wd (rwS x))) (.int (xs.length : Nat))
    have := h.kl
    rw [List.length_append]
    show _ ≤ _ + 1
    omega
  · rw [upd_same, List.map_append]
    rfl
  · rw [List.map_append, List.map_append, h.tx]
    show _ ++ [tl y] = _ ++ [rwS x]
    rw [hy]
/-- the pairs so far, apart from the lists that grow -/
def FnL (G : Hp) (fn rn : Addr) (W : Gr) : Prop := ∃ us : List Addr, G fn = some (.lst (us.map V.ref)) ∧ Paired (fun t (pr : Pr) => G t = some (.lst [oV pr.1, oV pr.2])) us W ∧ ∀ u ∈ us, u ≠ rn ∧ u ≠ fn
theorem paired_all {α β : Type} {F G : α → β → Prop} : ∀ {l₁ : List α} {l₂ : List β}, Paired F l₁ l₂ → (∀ a ∈ l₁, ∀ b, F a b → G a b) → Paired G l₁ l₂
  | _, _, .nil, _ => .nil
  | _, _, .cons h t, k => .cons (k _ (List.mem_cons_self ..) _ h) (paired_all t fun a ha => k a (List.mem_cons_of_mem _ ha))
theorem FnL.keep {G G' : Hp} {fn rn : Addr} {W : Gr} (h : FnL G fn rn W) (k : ∀ b xs, G b = some (.lst xs) → b ≠ rn → G' b = some (.lst xs)) (nf : fn ≠ rn) : FnL G' fn rn W :=
  let ⟨us, a, b, c⟩ := h
  ⟨us, k _ _ a nf, paired_all b fun u hu pr z => k _ _ z (c u hu).1, c⟩
theorem pairs_extK {st : Ky → Bool → Option Ky} {R R' : List Ky} {n : Nat} (hp : R <+: R') (hn : n ≤ R.length) (ha : ∀ s ∈ R.take n, ∀ c g, st s c = some g → g ∈ R) : Pw.pairsOf st R' n = Pw.pairsOf st R n := by
  unfold Pw.pairsOf
  obtain ⟨t, rfl⟩ := hp
  rw [List.take_append_of_le_length hn]
  refine List.map_congr_left fun s hs => ?_
  have one : ∀ c, (st s c).map (posn (R ++ t)) = (st s c).map (posn R) := fun c => by
    cases e : st s c with
    | none => rfl
    | some g =>
      show some _ = some _
      rw [posn_pre (List.prefix_append _ _) (ha s hs c g e)]
  rw [one, one]
theorem bi_takeK {st : Ky → Bool → Option Ky} {s0 : Ky} {R : List Ky} {Pl : List Nat} {n : Nat} (b : BI st s0 R Pl (2 * n)) (hn : n ≤ R.length) : ∀ s ∈ R.take n, ∀ c g, st s c = some g → g ∈ R := fun s hs c g e => by
  obtain ⟨k, hk, ek⟩ := List.getElem_of_mem hs
  rw [List.length_take] at hk
  rw [List.getElem_take] at ek
  refine b.all (edge k c) (edge_lt (by omega)) g ?_
  unfold tgt
  rw [edge_div, edge_mod, List.getElem?_eq_getElem (by omega), ek]
  exact e
def spRA : Sp := fun vs H Q _ => ∃ (T t : Addr) (xs : List Str) (lo : Int) (hi wd : Option Int), vs = [.ref T] ∧ Parts H T t xs lo hi wd ∧ RuleOk xs lo hi wd ∧ xs.length ≤ 60 ∧ (∀ s, wd = some s → s ≤ 4) ∧
  ∀ (p : Addr) (W : Gr) H', Same H H' → H p = none → GrL H' p W → W.length ≤ 14000 → RawOf (lawR xs lo hi wd) W → Q (.ref p) H'
theorem ok_ra {f fK fL : Addr} {fd fdK fdL : FuncData} (F : Fun K "_law_raw" "_law_raw" sRA f fd) (B : BN mg)
    (GK : FnOk P w K mg base CX0 2 fK fdK ["_law_r", "_law_row_here"] spKY) (km : mg "_law_key" = some (.ref fK)) (kk : PySem.W.keepIn K (.ref fK) = true) (kb : Binds K fdK ["_law_r", "_law_row_here"] [])
    (GL : FnOk P w K mg base CX0 2 fL fdL ["_law_r", "_law_row_here"] spLA) (lm : mg "_law_lawful" = some (.ref fL)) (lk : PySem.W.keepIn K (.ref fL) = true) (lb : Binds K fdL ["_law_r", "_law_row_here"] []) :
    FnOk P w K mg base CX0 3 f fd ["_law_r"] spRA := by
  refine F.ok scRA (fun vs H Q E h => ?_) (fun cdv A outer s H vs Q E hr h => ?_)
  · obtain ⟨T, t, xs, lo, hi, wd, rfl, _⟩ := h
    rfl
  · obtain ⟨T, t, bars, lo, hi, wd, rfl, hP, hok, h60, h4, q⟩ := h
    refine ⟨_, pss_cons (ps_set (i := 1) scRA.nd rfl (.inl rfl) (pe_lst (pa_cons pe_str pa_nil)))
      (pss_cons (ps_set (i := 2) scRA.nd rfl (.inl rfl) (pe_xone (by have := room1 hr; exact Nat.lt_of_succ_lt this) (pe_call GK hr rfl km kk kb .nil pass0 (pa_cons (pv 0) (pa_cons pe_str pa_nil))) pe_int))
      (pss_cons (ps_set (i := 3) scRA.nd rfl (.inl rfl) (pe_lst pa_nil))
      (pss_cons (ps_set (i := 4) scRA.nd rfl (.inl rfl) pe_int)
      (pss_cons (ps_while PassesOwn.never (pt_cmpR op_lt (pv 4) (pe_callB call_len_seq (by rfl) B.len PySem.boot_len (pa_cons (pv 1) pa_nil)) (nomark _))
        (pss_cons (ps_set (i := 5) scRA.nd rfl (.inl rfl) (pe_lst pa_nil))
        (C8.pss_cut (ps_for PassesOwn.never rfl (pi_str pe_str) (pg_name (i := 6) scRA.nd rfl (.inl rfl))
          (pss_cons (ps_set (i := 7) scRA.nd rfl (.inl rfl) (pe_op op_add_str (pe_ix ix_list (pv 1) (pv 4) (fun _ _ => rfl)) (pv 6)))
          (pss_cons (ps_set (i := 8) scRA.nd rfl (.inl rfl) pe_non)
          (C8.pss_cut (ps_if (pt_val (pe_call GL hr rfl lm lk lb .nil pass0 (pa_cons (pv 0) (pa_cons (pv 7) pa_nil))))
            (pss_cons (ps_set (i := 9) scRA.nd rfl (.inl rfl) (pe_call GK hr rfl km kk kb .nil pass0 (pa_cons (pv 0) (pa_cons (pv 7) pa_nil))))
            (C8.pss_cut (ps_if (pt_cmp (pc_xnotin (room1 hr) (pv 9) (pv 2)))
              (pss_cons (ps_xput (room1 hr) (pv 2) (pv 9) (pe_callB call_len_seq (by rfl) B.len PySem.boot_len (pa_cons (pv 1) pa_nil)) rfl)
              (pss_one (ps_expr (pe_bm PySem.F.plainAttrs_list PySem.F.slot_list_append PySem.F.type_list_append mt_append (pv 1) (pa_cons (pv 7) pa_nil))))) pss_nil)
            (pss_one (ps_set (i := 8) scRA.nd rfl (.inl rfl) (pe_xget (room1 hr) (pv 2) (pv 9) (fun _ _ => rfl)))))) pss_nil)
          (pss_one (ps_expr (pe_bm PySem.F.plainAttrs_list PySem.F.slot_list_append PySem.F.type_list_append mt_append (pv 5) (pa_cons (pv 8) pa_nil))))))))
        (pss_cons (ps_expr (pe_bm PySem.F.plainAttrs_list PySem.F.slot_list_append PySem.F.type_list_append mt_append (pv 3) (pa_cons (pv 5) pa_nil)))
        (pss_one (ps_set (i := 4) scRA.nd rfl (.inl rfl) (pe_op op_add (pv 4) pe_int))))))) 
      (pss_one (ps_ret (pv 3))))))), ?_⟩
    have pne : Pw.Pure (tl (Str.ofString "")) := fun c hc => nomatch (show c ∈ ([] : List Nat) from hc)
    refine ⟨by show 1 ≤ sizeLine; decide, fun rn nrn => ?_⟩
    intro dn ob0 ndn dx0
    have sa : Same H (upd (upd H rn (.lst [.str (Str.ofString "")])) dn ob0) := (same_new nrn).trans (same_new ndn)
    refine ⟨_, rfl, T, t, bars, lo, hi, wd, Str.ofString "", rfl, hP.same sa, pne, by show 0 ≤ 20000; decide, fun k0 H2 s2 nk0 hk0 => ?_⟩
    obtain ⟨vs0, hv0, lf0⟩ := hk0.leaf
    refine ⟨s2 _ _ upd_same, k0, vs0, _, rfl, hv0, lf0, fun ob dx => ?_⟩
    have hdn : H dn = none := NdefX.upd_none ndn
    have rd : rn ≠ dn := fun z => by
      rw [← z, upd_same] at ndn
      cases ndn
    have sb : Same H (upd H2 dn ob) := same_put (sa.trans s2) hdn
    refine ⟨by show 0 ≤ sizeLine; decide, fun fn nfn => ?_⟩
    have hfn : H fn = none := sb.free nfn
    have rl0 : upd H2 dn ob rn = some (.lst [.str (Str.ofString "")]) := by
      rw [upd_ne rd]
      exact s2 _ _ (by rw [upd_ne rd, upd_same])
    have fr : fn ≠ rn := fun z => by
      rw [z, rl0] at nfn
      cases nfn
    have S0 : St3 P w wd H (upd (upd H2 dn ob) fn (.lst [])) dn rn [[]] [Str.ofString ""] [(keyK (tauK wd (tl (Str.ofString ""))), .int 0)] := by
      refine ⟨dx.same (same_new nfn), fun s => ?_, Nat.le_refl _, same_new nfn _ _ rl0, rfl, sb.trans (same_new nfn), hdn, nrn⟩
      show valV [(keyK (tauK wd []), V.int 0)] (keyK s) = if s ∈ [tauK wd []] then some (V.int (posn [tauK wd []] s : Nat)) else none
      by_cases e : s = tauK wd []
      · rw [e, if_pos (List.mem_singleton.mpr rfl), valV_pos rfl]
        have : posn [tauK wd []] (tauK wd []) = 0 := posn_eq (R := [tauK wd []]) (List.nodup_cons.mpr ⟨(fun z => nomatch z), List.nodup_nil⟩) rfl
        rw [this]
        rfl
      · rw [if_neg (fun z => e (List.mem_singleton.mp z)), valV_neg (fun z => e (keyK_inj z).symm)]
        rfl
    have hU : ∀ {xs : List (List Bool)}, (∀ x ∈ xs, lawR bars lo hi wd x = true) → (kys wd xs).Nodup → xs.length ≤ 14000 := fun {xs} h1 h2 => by
      have := nd_le (kys wd xs) (kyU wd) h2 fun a ha => by
        obtain ⟨x, hx, e⟩ := List.mem_map.mp ha
        rw [← e]
        exact ky_mem (rw_pure x) ((hok.ok (rw_pure x)).mp (h1 x hx))
      rw [List.length_map] at this
      exact Nat.le_trans this (kyU_len wd h4)
    refine ⟨fun m σ G => ∃ (n : Nat) (xs : List (List Bool)) (ws : List Str) (kvs : List (List Leaf × V)) (Pl : List Nat) (y5 y6 y7 y8 y9 : Option V), σ = [some (.ref T), some (.ref rn), some (.ref dn), some (.ref fn), some (.int (n : Nat)), y5, y6, y7, y8, y9] ∧ St3 P w wd H G dn rn xs ws kvs ∧ BI (stKb (shortL bars lo) hi wd) (tauK wd []) (kys wd xs) Pl (2 * n) ∧ n ≤ xs.length ∧
      (∀ x ∈ xs, lawR bars lo hi wd x = true) ∧ (∀ (i : Nat) (x : List Bool), xs[i]? = some x → x.length ≤ i) ∧ FnL G fn rn (Pw.pairsOf (stKb (shortL bars lo) hi wd) (kys wd xs) n) ∧ m + n = 14001,
      ⟨14001, 0, [[]], [Str.ofString ""], _, [], none, none, none, none, none, rfl, S0, BI.start _, Nat.zero_le _, fun x hx => by rw [List.mem_singleton.mp hx]; exact hok.nil, fun i x hx => ?_, ⟨[], upd_same, .nil, fun u hu => nomatch hu⟩, rfl⟩, ?_⟩
    · have := List.mem_of_getElem? hx
      rw [List.mem_singleton.mp this]
      exact Nat.zero_le _
    rintro m σ G ⟨n, xs, ws, kvs, Pl, y5, y6, y7, y8, y9, rfl, S, b, hn, hlaw, hlen, hF, hm⟩
    have lws : ws.length = xs.length := by
      have := congrArg List.length S.tx
      rw [List.length_map, List.length_map] at this
      exact this
    have lks : ∀ xs : List (List Bool), (kys wd xs).length = xs.length := fun xs => List.length_map ..
    have h14 := hU hlaw b.nd
    refine ⟨_, rfl, _, rfl, rn, _, rfl, .inl (SqL.of S.rl), _, _, rfl, rfl, _, rfl, ?_⟩
    rw [List.length_map, lws]
    by_cases hlt : n < xs.length
    · rw [decide_eq_true (by omega)]
      refine iteT ⟨fun σ G => ∃ (xs : List (List Bool)) (ws : List Str) (kvs : List (List Leaf × V)) (Pl : List Nat) (y5 y6 y7 y8 y9 : Option V), σ = [some (.ref T), some (.ref rn), some (.ref dn), some (.ref fn), some (.int ((n + 1 : Nat) : Int)), y5, y6, y7, y8, y9] ∧ St3 P w wd H G dn rn xs ws kvs ∧ BI (stKb (shortL bars lo) hi wd) (tauK wd []) (kys wd xs) Pl (2 * (n + 1)) ∧ n + 1 ≤ xs.length ∧
        (∀ x ∈ xs, lawR bars lo hi wd x = true) ∧ (∀ (i : Nat) (x : List Bool), xs[i]? = some x → x.length ≤ i) ∧ FnL G fn rn (Pw.pairsOf (stKb (shortL bars lo) hi wd) (kys wd xs) (n + 1)), ?_, ?_⟩
      · rintro σ' G' ⟨xs, ws, kvs, Pl, y5, y6, y7, y8, y9, h1, h2, h3, h4, h5, h6, h7⟩
        exact ⟨m - 1, by omega, n + 1, xs, ws, kvs, Pl, y5, y6, y7, y8, y9, h1, h2, h3, h4, h5, h6, h7, by omega⟩
      refine ⟨by show 0 ≤ sizeLine; decide, fun pp npp => ?_⟩
      have ex : xs[n]? = some xs[n] := List.getElem?_eq_getElem hlt
      generalize xs[n] = x at ex
      have hx := hlaw x (List.mem_of_getElem? ex)
      have hxn := hlen n x ex
      have hppH : H pp = none := S.sm.free npp
      have ppr : pp ≠ rn := fun z => by
        rw [z, S.rl] at npp
        cases npp
      have ppd : pp ≠ dn := fun z => by
        obtain ⟨zs, hz⟩ := dx_at S.dx
        rw [z, hz] at npp
        cases npp
      have ppf : pp ≠ fn := fun z => by
        obtain ⟨us, hu1, _⟩ := hF
        rw [z, hu1] at npp
        cases npp
      have sp0 : Same G (upd G pp (.lst [])) := same_new npp
      let st := stKb (shortL bars lo) hi wd
      let FP : Hp → Prop := fun G => FnL G fn rn (Pw.pairsOf st (kys wd xs) n) ∧ ∃ us : List Addr, G fn = some (.lst (us.map V.ref)) ∧ pp ∉ us
      let two : List (List Bool) → List V := fun xs2 => [oV ((st (tauK wd (rwS x)) false).map (posn (kys wd xs2))), oV ((st (tauK wd (rwS x)) true).map (posn (kys wd xs2)))]
      have hFP : FP (upd G pp (.lst [])) := by
        obtain ⟨us, hu1, hu2, hu3⟩ := id hF
        refine ⟨hF.keep (fun b zs e _ => sp0 _ _ e) fr, us, sp0 _ _ hu1, fun z => ?_⟩
        have : ∀ {us : List Addr} {W : Gr}, Paired (fun t (pr : Pr) => G t = some (.lst [oV pr.1, oV pr.2])) us W → pp ∉ us := fun {us W} h => by
          induction h with
          | nil => exact fun z => nomatch z
          | cons h1 _ ih =>
            intro z
            rcases List.mem_cons.mp z with z | z
            · rw [← z, npp] at h1
              cases h1
            · exact ih z
        exact this hu2 z
      refine ⟨fun σ G => ∃ (xs2 : List (List Bool)) (ws : List Str) (kvs : List (List Leaf × V)) (Pl : List Nat) (y6 y7 y8 y9 : Option V), σ = [some (.ref T), some (.ref rn), some (.ref dn), some (.ref fn), some (.int (n : Nat)), some (.ref pp), y6, y7, y8, y9] ∧ St3 P w wd H G dn rn xs2 ws kvs ∧ BI st (tauK wd []) (kys wd xs2) Pl (2 * n + 2) ∧ xs <+: xs2 ∧
        (∀ x ∈ xs2, lawR bars lo hi wd x = true) ∧ (∀ (i : Nat) (x : List Bool), xs2[i]? = some x → x.length ≤ i) ∧ FP G ∧ G pp = some (.lst (two xs2)), ?_, ?_⟩
      · refine ⟨Str.ofString "01", rfl, for_str (x := Str.ofString "01") (fun i σ G => ∃ (xs2 : List (List Bool)) (ws : List Str) (kvs : List (List Leaf × V)) (Pl : List Nat) (y6 y7 y8 y9 : Option V), σ = [some (.ref T), some (.ref rn), some (.ref dn), some (.ref fn), some (.int (n : Nat)), some (.ref pp), y6, y7, y8, y9] ∧ St3 P w wd H G dn rn xs2 ws kvs ∧ BI st (tauK wd []) (kys wd xs2) Pl (2 * n + i) ∧ xs <+: xs2 ∧
          (∀ x ∈ xs2, lawR bars lo hi wd x = true) ∧ (∀ (i : Nat) (x : List Bool), xs2[i]? = some x → x.length ≤ i) ∧ FP G ∧ G pp = some (.lst ((two xs2).take i)))
          ⟨xs, ws, kvs, Pl, y6, y7, y8, y9, rfl, S.more sp0, b, List.prefix_refl _, hlaw, hlen, hFP, upd_same⟩ ?_ ?_⟩
        · rintro i c σ G2 hc ⟨xs2, ws2, kv2, Pl2, y6, y7, y8, y9, rfl, S2, b2, hpre, hlaw2, hlen2, hFP2, hpp⟩
          have hci : i < 2 ∧ c = sgn (i == 1) := by
            match i, hc with
            | 0, hc => exact ⟨by decide, (Option.some.inj hc).symm⟩
            | 1, hc => exact ⟨by decide, (Option.some.inj hc).symm⟩
          obtain ⟨hi2, rfl⟩ := hci
          have hn2 : n < xs2.length := Nat.lt_of_lt_of_le hlt hpre.length_le
          have h142 := hU hlaw2 b2.nd
          have ex2 : xs2[n]? = some x := by
            obtain ⟨t, rfl⟩ := hpre
            rw [List.getElem?_append_left hlt]
            exact ex
          have ek2 : (kys wd xs2)[n]? = some (tauK wd (rwS x)) := by
            rw [List.getElem?_map, ex2]
            rfl
          have lw2 : ws2.length = xs2.length := by
            have := congrArg List.length S2.tx
            rw [List.length_map, List.length_map] at this
            exact this
          have ew : ws2[n]? = some ws2[n] := List.getElem?_eq_getElem (by omega)
          have etw : tl ws2[n] = rwS x := by
            have h1 : (ws2.map tl)[n]? = some (tl ws2[n]) := by
              rw [List.getElem?_map, ew]
              rfl
            rw [S2.tx, List.getElem?_map, ex2] at h1
            exact (Option.some.inj h1).symm
          generalize ws2[n] = wn at ew etw
          have ety : tl (wn ++ chr1 (sgn (i == 1))) = rwS (x ++ [i == 1]) := by
            rw [tl_append, etw, rw_snoc]
            rfl
          have lrw : (rwS x).length = x.length := List.length_map ..
          have ly : (tl (wn ++ chr1 (sgn (i == 1)))).length = x.length + 1 := by
            rw [ety, rw_snoc, List.length_append, lrw]
            rfl
          have hly : (tl (wn ++ chr1 (sgn (i == 1)))).length ≤ 20000 := by
            rw [ly]
            omega
          have hpy : Pw.Pure (tl (wn ++ chr1 (sgn (i == 1)))) := by
            rw [ety]
            exact rw_pure _
          have hlawy : lawB bars lo hi wd (tl (wn ++ chr1 (sgn (i == 1)))) = lawR bars lo hi wd (x ++ [i == 1]) := by
            rw [ety]
            rfl
          have estep := hok.stepK x (i == 1) hx
          have etg : tgt st (kys wd xs2) (2 * n + i) = st (tauK wd (rwS x)) (i == 1) := by
            unfold tgt
            rw [show (2 * n + i) / 2 = n by omega, ek2]
            show st (tauK wd (rwS x)) ((2 * n + i) % 2 == 1) = _
            rcases (show i = 0 ∨ i = 1 by omega) with rfl | rfl
            · rw [show (2 * n + 0) % 2 = 0 by omega]
            · rw [show (2 * n + 1) % 2 = 1 by omega]
          refine ⟨_, rfl, _, rfl, rn, _, _, .str wn, rfl, rfl, SqL.of S2.rl, atI_nat (by rw [List.getElem?_map, ew]; rfl), _, rfl, wn, chr1 (sgn (i == 1)), rfl, rfl, ?_, ?_⟩
          · rw [len_tl wn, len_tl (chr1 _), etw, lrw]
            exact Nat.le_trans (show x.length + 1 ≤ 20000 by omega) (by decide)
          have FPk : ∀ {Ga Gb : Hp}, FP Ga → (∀ b zs, Ga b = some (.lst zs) → b ≠ rn → Gb b = some (.lst zs)) → FP Gb := fun {Ga Gb} h k => by
            obtain ⟨h1, us, h2, h3⟩ := h
            exact ⟨h1.keep k fr, us, k _ _ h2 fr, h3⟩
          refine ⟨fun σ G3 => ∃ (xs3 : List (List Bool)) (ws : List Str) (kvs : List (List Leaf × V)) (Pl : List Nat) (y9 : Option V), σ = [some (.ref T), some (.ref rn), some (.ref dn), some (.ref fn), some (.int (n : Nat)), some (.ref pp), some (.str (chr1 (sgn (i == 1)))), some (.str (wn ++ chr1 (sgn (i == 1)))), some (oV ((st (tauK wd (rwS x)) (i == 1)).map (posn (kys wd xs3)))), y9] ∧ St3 P w wd H G3 dn rn xs3 ws kvs ∧ BI st (tauK wd []) (kys wd xs3) Pl (2 * n + i + 1) ∧ xs2 <+: xs3 ∧
            (∀ x ∈ xs3, lawR bars lo hi wd x = true) ∧ (∀ (i : Nat) (x : List Bool), xs3[i]? = some x → x.length ≤ i) ∧ FP G3 ∧ G3 pp = some (.lst ((two xs2).take i)), ?_, ?_⟩
          · refine ⟨_, rfl, _, rfl, T, t, bars, lo, hi, wd, wn ++ chr1 (sgn (i == 1)), rfl, hP.same S2.sm, hok.ne, h60, hpy, hly, fun G3 s3 => ?_⟩
            refine ⟨_, rfl, ?_⟩
            rw [hlawy]
            by_cases hl : lawR bars lo hi wd (x ++ [i == 1]) = true
            · rw [hl]
              have est : st (tauK wd (rwS x)) (i == 1) = some (tauK wd (rwS (x ++ [i == 1]))) := by
                show stKb (shortL bars lo) hi wd _ _ = _
                rw [estep, if_pos hl]
              refine iteT ⟨_, rfl, _, rfl, T, t, bars, lo, hi, wd, wn ++ chr1 (sgn (i == 1)), rfl, hP.same (S2.sm.trans s3), hpy, hly, fun k9 G4 s4 nk hk => ?_⟩
              rw [ety] at hk
              have s34 := s3.trans s4
              have S4 := S2.more s34
              obtain ⟨vs9, hv9, lf9⟩ := hk.leaf
              have hFP4 : FP G4 := FPk hFP2 fun b zs e _ => s34 _ _ e
              have hpp4 := s34 _ _ hpp
              refine ⟨fun σ G5 => ∃ (xs3 : List (List Bool)) (ws : List Str) (kvs : List (List Leaf × V)) (Pl : List Nat), σ = [some (.ref T), some (.ref rn), some (.ref dn), some (.ref fn), some (.int (n : Nat)), some (.ref pp), some (.str (chr1 (sgn (i == 1)))), some (.str (wn ++ chr1 (sgn (i == 1)))), some .non, some (.ref k9)] ∧ St3 P w wd H G5 dn rn xs3 ws kvs ∧ BI st (tauK wd []) (kys wd xs3) Pl (2 * n + i + 1) ∧ xs2 <+: xs3 ∧
                (∀ x ∈ xs3, lawR bars lo hi wd x = true) ∧ (∀ (i : Nat) (x : List Bool), xs3[i]? = some x → x.length ≤ i) ∧ FP G5 ∧ G5 pp = some (.lst ((two xs2).take i)) ∧ G5 k9 = some (.tup vs9) ∧ tauK wd (rwS (x ++ [i == 1])) ∈ kys wd xs3, ?_, ?_⟩
              · refine ⟨_, rfl, _, rfl, dn, _, rfl, ⟨kv2, _, k9, vs9, S4.dx, rfl, hv9, lf9, rfl⟩, _, rfl, ?_⟩
                rw [S4.val]
                by_cases hm2 : tauK wd (rwS (x ++ [i == 1])) ∈ kys wd xs2
                · rw [if_pos hm2]
                  refine iteF ⟨xs2, ws2, kv2, Pl2, rfl, S4, ?_, List.prefix_refl _, hlaw2, hlen2, hFP4, hpp4, hv9, hm2⟩
                  have := b2.old (by rw [lks]; omega) fun g hgg => by
                    rw [etg, est] at hgg
                    rw [← Option.some.inj hgg]
                    exact hm2
                  exact this
                · rw [if_neg hm2]
                  refine iteT ⟨_, rfl, rn, _, rfl, .inl (SqL.of S4.rl), _, rfl, _, rfl, dn, rfl, kv2, _, k9, vs9, S4.dx, ?_, rfl, hv9, lf9, fun ob2 dx2 => ?_⟩
                  · have := S4.kl
                    exact Nat.lt_of_le_of_lt this (smallB (by omega))
                  rw [List.length_map, lw2] at dx2
                  have rd4 : rn ≠ dn := S4.dne S4.rl (.inl ⟨_, rfl⟩)
                  have rn2 : upd G4 dn ob2 rn = some (.lst (ws2.map V.str)) := by
                    rw [upd_ne rd4]
                    exact S4.rl
                  refine ⟨_, rfl, .inl ⟨rfl, _, SqL.of rn2⟩, _, rfl, rn, _, _, rfl, rfl, rn2, ?_, ?_⟩
                  · rw [List.length_map, lw2]
                    exact smallB (by omega)
                  have S5 := S4.put hm2 ety dx2
                  have kl : ∀ b zs, G4 b = some (.lst zs) → b ≠ rn → upd (upd G4 dn ob2) rn (.lst (ws2.map V.str ++ [.str (wn ++ chr1 (sgn (i == 1)))])) b = some (.lst zs) := fun b zs e n => by
                    rw [upd_ne n, upd_ne (S4.dne e (.inl ⟨_, rfl⟩))]
                    exact e
                  have ek3 : kys wd (xs2 ++ [x ++ [i == 1]]) = kys wd xs2 ++ [tauK wd (rwS (x ++ [i == 1]))] := List.map_append ..
                  refine ⟨xs2 ++ [x ++ [i == 1]], ws2 ++ [wn ++ chr1 (sgn (i == 1))], _, Pl2 ++ [2 * n + i], rfl, S5, ?_, List.prefix_append _ _, fun x' hx' => ?_, fun j x' hx' => ?_, FPk hFP4 kl, kl _ _ hpp4 ppr, ?_, ?_⟩
                  · rw [ek3]
                    exact b2.new (by rw [lks]; omega) (etg.trans est) hm2
                  · rcases List.mem_append.mp hx' with z | z
                    · exact hlaw2 x' z
                    · rw [List.mem_singleton.mp z]
                      exact hl
                  · by_cases hj : j < xs2.length
                    · rw [List.getElem?_append_left hj] at hx'
                      exact hlen2 j x' hx'
                    · rw [List.getElem?_append_right (by omega)] at hx'
                      have := List.mem_of_getElem? hx'
                      rw [List.mem_singleton.mp this, List.length_append]
                      show x.length + 1 ≤ j
                      omega
                  · rw [upd_ne (fun z => by rw [z, S4.rl] at hv9; cases hv9), upd_ne (S4.dne hv9 (.inr ⟨_, rfl⟩))]
                    exact hv9
                  · rw [ek3]
                    exact List.mem_append_right _ (List.mem_singleton.mpr rfl)
              · rintro _ G5 ⟨xs3, ws3, kv3, Pl3, rfl, S5, b5, hpre5, hlaw5, hlen5, hFP5, hpp5, hv5, hm5⟩
                refine ⟨_, rfl, _, rfl, dn, .int (posn (kys wd xs3) (tauK wd (rwS (x ++ [i == 1]))) : Nat), rfl, ⟨kv3, _, k9, vs9, S5.dx, rfl, hv5, lf9, by rw [S5.val, if_pos hm5]⟩, ?_⟩
                refine ⟨xs3, ws3, kv3, Pl3, some (.ref k9), ?_, S5, b5, hpre5, hlaw5, hlen5, hFP5, hpp5⟩
                rw [est]
                rfl
            · have hl' : lawR bars lo hi wd (x ++ [i == 1]) = false := by
                cases e : lawR bars lo hi wd (x ++ [i == 1]) with
                | false => rfl
                | true => exact absurd e hl
              have est : st (tauK wd (rwS x)) (i == 1) = none := by
                show stKb (shortL bars lo) hi wd _ _ = _
                rw [estep, if_neg hl]
              rw [hl']
              refine iteF ⟨xs2, ws2, kv2, Pl2, y9, by rw [est]; rfl, S2.more s3, ?_, List.prefix_refl _, hlaw2, hlen2, FPk hFP2 fun b zs e _ => s3 _ _ e, s3 _ _ hpp⟩
              have := b2.old (by rw [lks]; omega) fun g hgg => by
                rw [etg, est] at hgg
                cases hgg
              exact this
          · rintro _ G3 ⟨xs3, ws3, kv3, Pl3, y9, rfl, S3, b3, hpre3, hlaw3, hlen3, ⟨hF3, us3, hu3, hp3⟩, hpp3⟩
            have l2 : ((two xs2).take i).length = i := by
              rw [List.length_take]
              show min i 2 = i
              omega
            refine ⟨_, rfl, .inl ⟨rfl, _, SqL.of hpp3⟩, _, rfl, pp, _, _, rfl, rfl, hpp3, by rw [l2]; exact smallB (by omega), ?_⟩
            have ub : ∀ b zs, G3 b = some (.lst zs) → b ≠ pp → ∀ o, upd G3 pp o b = some (.lst zs) := fun b zs e n o => by
              rw [upd_ne n]
              exact e
            refine ⟨xs3, ws3, kv3, Pl3, _, _, _, _, rfl, S3.other (fun z => ppd z) ppr hppH (fun ys z => by rw [hpp3] at z; cases z), b3, hpre.trans hpre3, hlaw3, hlen3, ⟨?_, us3, ub _ _ hu3 (fun z => ppf z.symm) _, hp3⟩, ?_⟩
            · obtain ⟨us, h1, h2, h3⟩ := hF3
              obtain rfl : us = us3 := by
                rw [h1] at hu3
                have e := Option.some.inj hu3
                have e : us.map V.ref = us3.map V.ref := by injection e
                exact List.map_inj_right (fun a b h => V.ref.inj h) |>.mp e
              exact ⟨us, ub _ _ h1 (fun z => ppf z.symm) _, paired_all h2 fun u hu pr z => ub _ _ z (fun z2 => hp3 (z2 ▸ hu)) _, h3⟩
            · rw [upd_same]
              rcases (show i = 0 ∨ i = 1 by omega) with rfl | rfl
              · rfl
              · have e0 : (st (tauK wd (rwS x)) false).map (posn (kys wd xs2)) = (st (tauK wd (rwS x)) false).map (posn (kys wd xs3)) := by
                  cases e : st (tauK wd (rwS x)) false with
                  | none => rfl
                  | some g =>
                    show some _ = some _
                    have hg : g ∈ kys wd xs2 := by
                      refine b2.all (edge n false) (by unfold edge; show 2 * n + 0 < 2 * n + 1; omega) g ?_
                      unfold tgt
                      rw [edge_div, edge_mod, ek2]
                      exact e
                    obtain ⟨t3, rfl⟩ := hpre3
                    rw [show kys wd (xs2 ++ t3) = kys wd xs2 ++ kys wd t3 from List.map_append .., posn_pre (List.prefix_append _ _) hg]
                show some (HO.lst [oV ((st (tauK wd (rwS x)) false).map (posn (kys wd xs2))), oV ((st (tauK wd (rwS x)) true).map (posn (kys wd xs3)))]) = some (HO.lst [oV ((st (tauK wd (rwS x)) false).map (posn (kys wd xs3))), oV ((st (tauK wd (rwS x)) true).map (posn (kys wd xs3)))])
                rw [e0]
        · rintro σ G2 ⟨xs2, ws2, kv2, Pl2, y6, y7, y8, y9, h⟩
          exact ⟨xs2, ws2, kv2, Pl2, y6, y7, y8, y9, h⟩
      · rintro _ G2 ⟨xs2, ws2, kv2, Pl2, y6, y7, y8, y9, rfl, S2, b2, hpre, hlaw2, hlen2, ⟨hF2, us2, hu2, hpu⟩, hpp⟩
        have hn2 : n < xs2.length := Nat.lt_of_lt_of_le hlt hpre.length_le
        have h142 := hU hlaw2 b2.nd
        have ex2 : xs2[n]? = some x := by
          obtain ⟨t, rfl⟩ := hpre
          rw [List.getElem?_append_left hlt]
          exact ex
        obtain ⟨us, hu1, hup, hun⟩ := id hF2
        have hul : us.length = n := (Paired.length hup).trans (Pw.pairs_len (by rw [lks]; exact hn))
        obtain rfl : us = us2 := by
          rw [hu1] at hu2
          have e := Option.some.inj hu2
          have e : us.map V.ref = us2.map V.ref := by injection e
          exact List.map_inj_right (fun a b h => V.ref.inj h) |>.mp e
        refine ⟨_, rfl, .inl ⟨rfl, _, SqL.of hu1⟩, _, rfl, fn, _, _, rfl, rfl, hu1, ?_, ?_⟩
        · rw [List.length_map, hul]
          exact smallB (by omega)
        refine ⟨_, rfl, _, _, rfl, rfl, xs2, ws2, kv2, Pl2, _, _, _, _, _, rfl, ?_, b2, by omega, hlaw2, hlen2, us ++ [pp], ?_, ?_, ?_⟩
        · exact S2.other (S2.dne hu1 (.inl ⟨_, rfl⟩)) fr hfn fun ys z => by rw [hu1] at z; cases z
        · rw [upd_same, List.map_append]
          rfl
        · have e1 : Pw.pairsOf st (kys wd xs2) (n + 1) = Pw.pairsOf st (kys wd xs) n ++ [((st (tauK wd (rwS x)) false).map (posn (kys wd xs2)), (st (tauK wd (rwS x)) true).map (posn (kys wd xs2)))] := by
            have hpk : kys wd xs <+: kys wd xs2 := by
              obtain ⟨t, rfl⟩ := hpre
              exact ⟨kys wd t, (List.map_append ..).symm⟩
            rw [← pairs_extK hpk (by rw [lks]; exact hn) (bi_takeK b (by rw [lks]; exact hn))]
            unfold Pw.pairsOf
            rw [List.take_add_one, show (kys wd xs2)[n]? = some (tauK wd (rwS x)) by rw [List.getElem?_map, ex2]; rfl, List.map_append]
            rfl
          show Paired _ _ (Pw.pairsOf st (kys wd xs2) (n + 1))
          rw [e1]
          refine Paired.snoc (paired_all hup fun u hu pr z => ?_) ?_
          · rw [upd_ne (hun u hu).2]
            exact z
          · rw [upd_ne ppf]
            exact hpp
        · intro u hu
          rcases List.mem_append.mp hu with z | z
          · exact hun u z
          · rw [List.mem_singleton.mp z]
            exact ⟨ppr, ppf⟩
    · rw [decide_eq_false (by omega)]
      have hnR : n = xs.length := by omega
      obtain ⟨us, hu1, hu2, _⟩ := id hF
      rw [hnR, ← lks xs] at hu2 b
      exact iteF ⟨_, rfl, q fn _ G S.sm hfn ⟨us, hu1, hu2⟩ (by rw [Pw.pairs_len (Nat.le_refl _), lks]; exact h14) (hok.rawK b.done)⟩
end
end K28

set_option Elab.async false
set_option linter.all false
set_option maxRecDepth 100000
set_option maxHeartbeats 4000000
namespace K28
open PySem PySem.Spec PyProof.Rows L2 Pw TL
section
variable {P : Program} {w : World} {K : PySem.W.Frag} {mg : Str → Option Value} {base : Heap}
/-! _law_alive -/
abbrev sAL : Stmt := topS 63
abbrev nAL : List Str := ["_law_raw_here", "_law_alive_here", "_law_turn", "_law_fresh", "_law_pair", "_law_goal", "_law_one", "_law_other"]
theorem scAL : FnScope nAL ["_law_raw_here"] (defScope sAL) := ⟨rfl, rfl, rfl, by decide +kernel, rfl, by decide +kernel, by decide +kernel⟩
def blV (f : Nat → Bool) (n : Nat) : List V := (List.range n).map fun i => V.bl (f i)
theorem blV_len (f : Nat → Bool) (n : Nat) : (blV f n).length = n := by simp [blV]
theorem blV_get (f : Nat → Bool) {n i : Nat} (h : i < n) : (blV f n)[i]? = some (.bl (f i)) := by
  unfold blV
  rw [List.getElem?_map, List.getElem?_range h]
  rfl
theorem blV_snoc (f : Nat → Bool) (n : Nat) : blV f (n + 1) = blV f n ++ [.bl (f n)] := by
  unfold blV
  rw [List.range_succ, List.map_append]
  rfl
theorem blV_congr {f g : Nat → Bool} {n : Nat} (h : ∀ i, i < n → f i = g i) : blV f n = blV g n := by
  unfold blV
  exact List.map_congr_left fun i hi => by rw [h i (List.mem_range.mp hi)]
def blD (f : Nat → Bool) (n : Nat) : PyData := .list ((List.range n).map fun i => .bool (f i))
theorem dp_bl {H : Hp} {a : Addr} {f : Nat → Bool} {n : Nat} (h : H a = some (.lst (blV f n))) : Dp K H (.ref a) (blD f n) := by
  refine .lst (SqL.of h) ?_
  unfold blV
  generalize List.range n = l
  induction l with
  | nil => exact .nil
  | cons i r ih => exact .cons (.bl _) ih
theorem shaped_bl (f : Nat → Bool) (n : Nat) : SeqAt.shaped (blD f n) = true := by
  have h1 : ∀ l : List Nat, PyData.canLayAll0 (l.map fun i => PyData.bool (f i)) = true := fun l => by
    induction l with
    | nil => rfl
    | cons p r ih => exact ih
  have h2 : ∀ l : List Nat, PyData.depthAll (l.map fun i => PyData.bool (f i)) ≤ 0 := fun l => by
    induction l with
    | nil => exact Nat.le_refl _
    | cons p r ih =>
      rw [List.map_cons]
      simp only [PyData.depthAll]
      have : (PyData.bool (f p)).depth = 0 := rfl
      omega
  unfold SeqAt.shaped
  show (PyData.canLayAll0 _ && decide (PyData.depthAll _ + 1 ≤ 64)) = true
  rw [h1, decide_eq_true (by have := h2 (List.range n); omega)]
  rfl
theorem eqv_bl (f g : Nat → Bool) (n : Nat) : PyData.eqv (blD f n) (blD g n) = true ↔ ∀ i, i < n → f i = g i := by
  have gen : ∀ l : List Nat, PyData.eqvAll (l.map fun i => PyData.bool (f i)) (l.map fun i => PyData.bool (g i)) = true ↔ ∀ i ∈ l, f i = g i := fun l => by
    induction l with
    | nil => exact ⟨(fun _ i hi => nomatch hi), fun _ => rfl⟩
    | cons a r ih =>
      show ((f a == g a) && PyData.eqvAll _ _) = true ↔ _
      rw [Bool.and_eq_true, beq_iff_eq, ih]
      exact ⟨fun h i hi => (List.mem_cons.mp hi).elim (fun z => by rw [z]; exact h.1) (h.2 i), fun h => ⟨h a (List.mem_cons_self ..), fun i hi => h i (List.mem_cons_of_mem _ hi)⟩⟩
  show PyData.eqvAll _ _ = true ↔ _
  rw [gen]
  exact ⟨fun h i hi => h i (List.mem_range.mpr hi), fun h i hi => h i (List.mem_range.mp hi)⟩
def spAL : Sp := fun vs H Q _ => ∃ (p : Addr) (W : Gr), vs = [.ref p] ∧ GrL H p W ∧ Closed W ∧ W.length ≤ 14000 ∧ ∀ (f : Nat → Bool) (l : Addr) H', Same H H' → H l = none → H' l = some (.lst (blV f W.length)) → (∀ i, i < W.length → (f i = true ↔ Lives W i)) → Q (.ref l) H'
theorem ok_al {f : Addr} {fd : FuncData} {k : Nat} (F : Fun K "_law_alive" "_law_alive" sAL f fd) (B : BN mg) (ma : mg "any" = none) (mz : mg "zip" = none) : FnOk P w K mg base CX0 (k + 1) f fd ["_law_raw_here"] spAL := by
  refine F.ok scAL (fun vs H Q E h => ?_) (fun cdv A outer s H vs Q E hr h => ?_)
  · obtain ⟨p, W, rfl, _⟩ := h
    rfl
  · obtain ⟨p, W, rfl, hg, hc, hW, q⟩ := h
    refine ⟨_, pss_cons (ps_set (i := 1) scAL.nd rfl (.inr rfl) (pe_lc (own := [("_law_pair", 4)]) (g := gName 4) (tt := tYes) rfl scAL.nd (pi_list (pv 0))
        (blkOk_by (N := nAL) (sc := defScope sAL) (by decide +kernel)) (fun _ _ _ _ _ => pg_name (i := 4) scAL.nd rfl (Or.inl rfl)) (fun _ _ _ _ _ => pts_nil) (fun _ _ _ _ _ => pe_bl)))
      (pss_cons (ps_for PassesOwn.never rfl (pi_range1 rfl B.rng (pa_cons (pe_callB call_len_seq (by rfl) B.len PySem.boot_len (pa_cons (pv 0) pa_nil)) pa_nil)) (pg_name (i := 2) scAL.nd rfl (.inl rfl))
        (pss_cons (ps_setLc (i := 3) (own := [("_law_pair", 4)]) (g := gName 4) rfl scAL.nd rfl rfl (sw_true rfl rfl rfl (by decide +kernel)) (pi_list (pv 0))
          (blkOk_by (N := nAL) (sc := defScope sAL) (by decide +kernel)) (fun _ _ _ _ _ => pg_name (i := 4) scAL.nd rfl (Or.inl rfl)) (fun _ _ _ _ _ => pts_nil)
          (fun _ _ _ _ _ => pe_callB (r := rAny K) (cr_any rfl) (by rfl) ma (by decide +kernel) (pa_cons (pe_lc (own := [("_law_goal", 5)]) (wi := iList K (tVar 4)) (g := gName 5) (tt := tYes) rfl scAL.nd (pi_list (pv 4))
            (blkOk_by (N := nAL) (by rfl)) (fun _ _ _ _ _ => pg_name (i := 5) scAL.nd rfl (Or.inl rfl)) (fun _ _ _ _ _ => pts_nil)
            (fun _ _ _ _ _ => pe_and (pe_cmpR op_notN (pv 5) pe_non (nomark _)) (pe_one (pe_ix (r := rIxL K) ix_list (pv 1) (pv 5) (fun _ _ => rfl))))) pa_nil)))
        (pss_cons (ps_setLc (i := 3) (own := [("_law_one", 6), ("_law_other", 7)]) (g := gTup K 2 (gCons (gName 6) (gCons (gName 7) gNil))) rfl scAL.nd rfl rfl (sw_true rfl rfl rfl (by decide +kernel)) (pi_zipD (by rfl) mz (pa_cons (pv 1) (pa_cons (pv 3) pa_nil)))
          (blkOk_by (N := nAL) (sc := defScope sAL) (by decide +kernel)) (fun _ _ _ _ _ => pg_tup rfl (pgs_cons (pg_name (i := 6) scAL.nd rfl (Or.inl rfl)) (pgs_cons (pg_name (i := 7) scAL.nd rfl (Or.inl rfl)) pgs_nil))) (fun _ _ _ _ _ => pts_nil)
          (fun _ _ _ _ _ => pe_and (pv 6) (pe_one (pv 7))))
        (pss_cons (ps_if (pt_cmpR (op_eqD hr.units) (pv 3) (pv 1) (nomark _)) (pss_one (ps_ret (pv 1))) pss_nil)
        (pss_one (ps_set (i := 1) scAL.nd rfl (.inr rfl) (pv 3)))))))
      (pss_one (ps_ret (pv 1)))), ?_⟩
    obtain ⟨ts, hts, hpr⟩ := id hg
    have htl : ts.length = W.length := Paired.length hpr
    have tl2 : (ts.map V.ref).length = W.length := by rw [List.length_map, htl]
    have sz : ∀ {j : Nat}, j ≤ W.length → j < sizeLine := fun {j} h => smallB (by omega)
    refine ⟨_, rfl, p, rfl, ⟨_, SqL.of hts⟩, fun D nD => ?_⟩
    refine lc_list (K := K) (a := p) (xs := ts.map V.ref) (fun i G => Same H G ∧ G D = some (.lst (blV (fun _ => true) i))) ⟨same_new nD, upd_same⟩ (fun i G _ h => SqL.of (h.1 _ _ hts)) (fun i x G hx h => ?_) (fun G0 h => ?_)
    · obtain ⟨s1, h1⟩ := h
      have hi := (List.getElem?_eq_some_iff.mp hx).1
      refine ⟨rfl, _, h1, ?_, same_put s1 nD, ?_⟩
      · rw [blV_len]
        exact sz (by omega)
      · rw [upd_same, blV_snoc]
    · obtain ⟨s0, h0⟩ := h
      rw [tl2] at h0
      refine ⟨_, rfl, p, _, rfl, .inl (SqL.of (s0 _ _ hts)), _, rfl, by rw [tl2]; omega, by rw [tl2]; omega, ?_⟩
      rw [tl2, show ((W.length : Nat) : Int).toNat = W.length by omega]
      refine for_range (lo := 0) (n := W.length) (fun i σ G => ∃ (l : Addr) (y2 y3 : Option V), σ = [some (.ref p), some (.ref l), y2, y3, none, none, none, none] ∧ Same H G ∧ H l = none ∧ G l = some (.lst (blV (alv W i) W.length))) ⟨D, none, none, rfl, s0, nD, h0⟩ ?_ ?_
      · rintro i σ G hi ⟨l, y2, y3, rfl, sG, nl, hl⟩
        refine ⟨_, rfl, p, rfl, ⟨_, SqL.of (sG _ _ hts)⟩, fun D1 nD1 => ?_⟩
        refine lc_list (K := K) (a := p) (xs := ts.map V.ref) (fun j G1 => Same G G1 ∧ G1 D1 = some (.lst (blV (alv W (i + 1)) j))) ⟨same_new nD1, upd_same⟩ (fun j G1 _ h => SqL.of (h.1 _ _ (sG _ _ hts))) (fun j x G1 hx h => ?_) (fun G1 h => ?_)
        · obtain ⟨s1, h1⟩ := h
          rw [List.getElem?_map] at hx
          cases et : ts[j]? with
          | none =>
            rw [et] at hx
            cases hx
          | some t =>
            rw [et] at hx
            obtain rfl : V.ref t = x := Option.some.inj hx
            have hj : j < W.length := by
              rw [← htl]
              exact (List.getElem?_eq_some_iff.mp et).1
            have ec : W[j]? = some W[j] := List.getElem?_eq_getElem hj
            have htt := paired_get hpr et ec
            generalize W[j] = pr at ec htt
            have gp : ∀ b, goG W j b = pick pr b := fun b => by
              unfold goG
              rw [ec]
              rfl
            have s01 := sG.trans s1
            let go : Option Nat → Bool := fun o => match o with | none => false | some g => alv W i g
            have ea : alv W (i + 1) j = (go pr.1 || go pr.2) := by
              show ((match goG W j false with | none => false | some j => alv W i j) || (match goG W j true with | none => false | some j => alv W i j)) = _
              rw [gp, gp]
              rfl
            refine ⟨rfl, _, rfl, t, rfl, ⟨_, SqL.of (s01 _ _ htt)⟩, fun D2 nD2 => ?_⟩
            refine lc_list (K := K) (a := t) (xs := [oV pr.1, oV pr.2]) (fun m G2 => Same G1 G2 ∧ G2 D2 = some (.lst (([go pr.1, go pr.2].take m).map V.bl))) ⟨same_new nD2, upd_same⟩ (fun m G2 _ h => SqL.of (h.1 _ _ (s01 _ _ htt))) (fun m v G2 hv h => ?_) (fun G2 h => ?_)
            · obtain ⟨s2, h2⟩ := h
              have hm : m < 2 := (List.getElem?_eq_some_iff.mp hv).1
              obtain ⟨o, rfl, eo, ow⟩ : ∃ o, v = oV o ∧ (∀ g, o = some g → g < W.length) ∧ [go pr.1, go pr.2][m]? = some (go o) := by
                have cl2 : ∀ b g, pick pr b = some g → g < W.length := fun b g e => hc j b g (by rw [gp]; exact e)
                rcases (show m = 0 ∨ m = 1 by omega) with rfl | rfl
                · cases hv
                  exact ⟨_, rfl, cl2 false, rfl⟩
                · cases hv
                  exact ⟨_, rfl, cl2 true, rfl⟩
              have fin : ∀ y, y = go o → ∃ acc, G2 D2 = some (.lst acc) ∧ acc.length < sizeLine ∧ (Same G1 (upd G2 D2 (.lst (acc ++ [.bl y]))) ∧ upd G2 D2 (.lst (acc ++ [.bl y])) D2 = some (.lst (([go pr.1, go pr.2].take (m + 1)).map V.bl))) := fun y ey => by
                refine ⟨_, h2, ?_, same_put s2 nD2, ?_⟩
                · rw [List.length_map, List.length_take]
                  exact Nat.lt_of_le_of_lt (Nat.min_le_right _ _) (by show 2 < sizeLine; decide)
                · rw [upd_same, List.take_add_one, ow, ey, List.map_append]
                  rfl
              cases o with
              | none => exact ⟨rfl, _, rfl, rfl, _, rfl, iteF (fin false rfl)⟩
              | some g => exact ⟨rfl, _, rfl, rfl, _, rfl, iteT ⟨_, rfl, _, rfl, l, _, _, .bl (alv W i g), rfl, rfl, SqL.of (s2 _ _ (s1 _ _ hl)), atI_nat (blV_get _ (eo g rfl)), fin _ rfl⟩⟩
            · obtain ⟨s2, h2⟩ := h
              refine ⟨D2, [go pr.1, go pr.2], rfl, SqL.of h2, _, s2 _ _ h1, ?_, same_put (s1.trans s2) nD1, ?_⟩
              · rw [blV_len]
                exact sz (by omega)
              · rw [upd_same, blV_snoc, ea]
                show some (HO.lst (_ ++ [V.bl (go pr.1 || (go pr.2 || false))])) = _
                rw [Bool.or_false]
        · obtain ⟨s1, h1⟩ := h
          rw [tl2] at h1
          have s01 := sG.trans s1
          have nD1H : H D1 = none := sG.free nD1
          refine ⟨_, rfl, _, rfl, .lst l, .lst D1, _, _, rfl, SqL.of (s1 _ _ hl), SqL.of h1, fun D3 nD3 => ?_⟩
          refine lc_it (walk_zipD (xs := blV (alv W i) W.length) (ys := blV (alv W (i + 1)) W.length) (n := W.length) (by rw [blV_len, blV_len]; exact (Nat.min_self _).symm)) (fun j G2 => Same G1 G2 ∧ G2 D3 = some (.lst (blV (alv W (i + 1)) j))) ⟨same_new nD3, upd_same⟩ (fun j G2 _ h => ⟨SqL.of (h.1 _ _ (s1 _ _ hl)), SqL.of (h.1 _ _ h1)⟩) (fun j v G2 G2' hj h y => ?_) (fun G2 h => ?_)
          · obtain ⟨s2, h2⟩ := h
            obtain ⟨T2, xk, xt, rfl, nT, rfl, e1, e2⟩ := y
            have e1 : (blV (alv W i) W.length)[j]? = some xk := e1
            have e2 : (blV (alv W (i + 1)) W.length)[j]? = some xt := e2
            rw [blV_get _ hj] at e1 e2
            obtain rfl := Option.some.inj e1
            obtain rfl := Option.some.inj e2
            have sT : Same G2 (upd G2 T2 (.tup [.bl (alv W i j), .bl (alv W (i + 1) j)])) := same_new nT
            have fin : ∃ acc, upd G2 T2 (.tup [.bl (alv W i j), .bl (alv W (i + 1) j)]) D3 = some (.lst acc) ∧ acc.length < sizeLine ∧ (Same G1 (upd (upd G2 T2 (.tup [.bl (alv W i j), .bl (alv W (i + 1) j)])) D3 (.lst (acc ++ [.bl (alv W (i + 1) j)]))) ∧ upd (upd G2 T2 (.tup [.bl (alv W i j), .bl (alv W (i + 1) j)])) D3 (.lst (acc ++ [.bl (alv W (i + 1) j)])) D3 = some (.lst (blV (alv W (i + 1)) (j + 1)))) := by
              refine ⟨_, sT _ _ h2, ?_, same_put (s2.trans sT) nD3, ?_⟩
              · rw [blV_len]
                exact sz (by omega)
              · rw [upd_same, blV_snoc]
            refine ⟨T2, _, rfl, SqT.of upd_same, rfl, _, _, rfl, _, _, rfl, rfl, rfl, _, rfl, _, rfl, ?_⟩
            cases ha : alv W i j with
            | true =>
              rw [ha] at fin
              exact iteT ⟨_, rfl, fin⟩
            | false =>
              have hb : alv W (i + 1) j = false := by
                cases hb : alv W (i + 1) j with
                | false => rfl
                | true => rw [alv_mono hb] at ha; cases ha
              rw [ha, hb] at fin
              rw [hb]
              exact iteF fin
          · obtain ⟨s2, h2⟩ := h
            have s02 := s01.trans s2
            refine ⟨_, rfl, _, rfl, blD (alv W (i + 1)) W.length, blD (alv W i) W.length, dp_bl h2, dp_bl (s2 _ _ (s1 _ _ hl)), shaped_bl _ _, shaped_bl _ _, _, rfl, ?_⟩
            by_cases he : PyData.eqv (blD (alv W (i + 1)) W.length) (blD (alv W i) W.length) = true
            · rw [he]
              have hall := (eqv_bl _ _ _).mp he
              exact iteT ⟨_, rfl, q (alv W i) l G2 s02 nl (s2 _ _ (s1 _ _ hl)) fun k hk => lives_of_fix hc rfl (fun k hk a => by rw [hall k hk]; exact a) hk⟩
            · have he' : PyData.eqv (blD (alv W (i + 1)) W.length) (blD (alv W i) W.length) = false := by
                cases e : PyData.eqv (blD (alv W (i + 1)) W.length) (blD (alv W i) W.length) with
                | false => rfl
                | true => exact absurd e he
              rw [he']
              exact iteF ⟨_, rfl, D3, _, _, rfl, s02, s01.free nD3, h2⟩
      · rintro σ G ⟨l, y2, y3, rfl, sG, nl, hl⟩
        exact ⟨_, rfl, q (alv W W.length) l G sG nl hl fun k hk => alv_end hc k hk⟩
end
end K28

set_option Elab.async false
set_option linter.all false
set_option maxRecDepth 100000
set_option maxHeartbeats 4000000
namespace K28
open PySem PySem.Spec PyProof.Rows L2 Pw TL
section
variable {P : Program} {w : World} {K : PySem.W.Frag} {mg : Str → Option Value} {base : Heap}
/-! _law_kinds -/
abbrev sKI : Stmt := topS 64
abbrev nKI : List Str := ["_law_raw_here", "_law_alive_here", "_law_kinds_here", "_law_turn", "_law_known", "_law_fresh", "_law_at", "_law_key_here", "_law_one", "_law_goal"]
theorem scKI : FnScope nKI ["_law_raw_here", "_law_alive_here"] (defScope sKI) := ⟨rfl, rfl, rfl, by decide +kernel, rfl, by decide +kernel, by decide +kernel⟩
def kiV (g : Nat → Int) (n : Nat) : List V := (List.range n).map fun i => V.int (g i)
theorem kiV_len (g : Nat → Int) (n : Nat) : (kiV g n).length = n := by simp [kiV]
theorem kiV_get (g : Nat → Int) {n i : Nat} (h : i < n) : (kiV g n)[i]? = some (.int (g i)) := by
  unfold kiV
  rw [List.getElem?_map, List.getElem?_range h]
  rfl
theorem kiV_snoc (g : Nat → Int) (n : Nat) : kiV g (n + 1) = kiV g n ++ [.int (g n)] := by
  unfold kiV
  rw [List.range_succ, List.map_append]
  rfl
theorem kiV_congr {f g : Nat → Int} {n : Nat} (h : ∀ i, i < n → f i = g i) : kiV f n = kiV g n := by
  unfold kiV
  exact List.map_congr_left fun i hi => by rw [h i (List.mem_range.mp hi)]
def kiD (g : Nat → Int) (n : Nat) : PyData := .list ((List.range n).map fun i => .int (g i))
theorem dp_ki {H : Hp} {a : Addr} {g : Nat → Int} {n : Nat} (h : H a = some (.lst (kiV g n))) : Dp K H (.ref a) (kiD g n) := by
  refine .lst (SqL.of h) ?_
  unfold kiV
  generalize List.range n = l
  induction l with
  | nil => exact .nil
  | cons i r ih => exact .cons (.int _) ih
theorem shaped_ki (g : Nat → Int) (n : Nat) : SeqAt.shaped (kiD g n) = true := by
  have h1 : ∀ l : List Nat, PyData.canLayAll0 (l.map fun i => PyData.int (g i)) = true := fun l => by
    induction l with
    | nil => rfl
    | cons p r ih => exact ih
  have h2 : ∀ l : List Nat, PyData.depthAll (l.map fun i => PyData.int (g i)) ≤ 0 := fun l => by
    induction l with
    | nil => exact Nat.le_refl _
    | cons p r ih =>
      rw [List.map_cons]
      simp only [PyData.depthAll]
      have : (PyData.int (g p)).depth = 0 := rfl
      omega
  unfold SeqAt.shaped
  show (PyData.canLayAll0 _ && decide (PyData.depthAll _ + 1 ≤ 64)) = true
  rw [h1, decide_eq_true (by have := h2 (List.range n); omega)]
  rfl
theorem eqv_ki (f g : Nat → Int) (n : Nat) : PyData.eqv (kiD f n) (kiD g n) = true ↔ ∀ i, i < n → f i = g i := by
  have gen : ∀ l : List Nat, PyData.eqvAll (l.map fun i => PyData.int (f i)) (l.map fun i => PyData.int (g i)) = true ↔ ∀ i ∈ l, f i = g i := fun l => by
    induction l with
    | nil => exact ⟨(fun _ i hi => nomatch hi), fun _ => rfl⟩
    | cons a r ih =>
      show ((f a == g a) && PyData.eqvAll _ _) = true ↔ _
      rw [Bool.and_eq_true, beq_iff_eq, ih]
      exact ⟨fun h i hi => (List.mem_cons.mp hi).elim (fun z => by rw [z]; exact h.1) (h.2 i), fun h => ⟨h a (List.mem_cons_self ..), fun i hi => h i (List.mem_cons_of_mem _ hi)⟩⟩
  show PyData.eqvAll _ _ = true ↔ _
  rw [gen]
  exact ⟨fun h i hi => h i (List.mem_range.mpr hi), fun h i hi => h i (List.mem_range.mp hi)⟩
def keyZ (k : K3) : List Leaf := [.num (k.1 : Nat), .num (kz k.2.1), .num (kz k.2.2)]
theorem keyZ_inj {a b : K3} (h : keyZ a = keyZ b) : a = b := by
  have h1 := List.cons.inj h
  have h2 := List.cons.inj h1.2
  have h3 := List.cons.inj h2.2
  have e1 : ((a.1 : Nat) : Int) = (b.1 : Nat) := Leaf.num.inj h1.1
  exact Prod.ext (Int.ofNat.inj e1) (Prod.ext (kz_inj (Leaf.num.inj h2.1)) (kz_inj (Leaf.num.inj h3.1)))
def spKI : Sp := fun vs H Q _ => ∃ (p a : Addr) (W C : Gr) (al : Nat → Bool), vs = [.ref p, .ref a] ∧ GrL H p W ∧ Closed W ∧ W.length ≤ 14000 ∧ H a = some (.lst (blV al W.length)) ∧ (∀ i, i < W.length → (al i = true ↔ Lives W i)) ∧ IsCut W C ∧
  ∀ (f : Nat → Nat) (l : Addr) H', Same H H' → H l = none → H' l = some (.lst (kiV (kdI al f) W.length)) → (∀ i j, i < W.length → al i = true → j < W.length → al j = true → (f i = f j ↔ Pw.Same C i j)) → Q (.ref l) H'
theorem ok_ki {f : Addr} {fd : FuncData} {k : Nat} (F : Fun K "_law_kinds" "_law_kinds" sKI f fd) (B : BN mg) (mt : mg "tuple" = none) : FnOk P w K mg base CX0 (k + 1) f fd ["_law_raw_here", "_law_alive_here"] spKI := by
  refine F.ok scKI (fun vs H Q E h => ?_) (fun cdv A outer s H vs Q E hr h => ?_)
  · obtain ⟨p, a, W, C, al, rfl, _⟩ := h
    rfl
  · obtain ⟨p, a, W, C, al, rfl, hg, hc, hW, ha, hal, hcut, q⟩ := h
    refine ⟨_, pss_cons (ps_set (i := 2) scKI.nd rfl (.inr rfl) (pe_lc (own := [("_law_one", 8)]) (g := gName 8) (tt := tYes) rfl scKI.nd (pi_list (pv 1))
        (blkOk_by (N := nKI) (sc := defScope sKI) (by decide +kernel)) (fun _ _ _ _ _ => pg_name (i := 8) scKI.nd rfl (Or.inl rfl)) (fun _ _ _ _ _ => pts_nil) (fun _ _ _ _ _ => pe_ifExp (pt_val (pv 8)) pe_int (pe_un un_neg pe_int))))
      (pss_cons (ps_for PassesOwn.never rfl (pi_range1 rfl B.rng (pa_cons (pe_callB call_len_seq (by rfl) B.len PySem.boot_len (pa_cons (pv 0) pa_nil)) pa_nil)) (pg_name (i := 3) scKI.nd rfl (.inl rfl))
        (pss_cons (ps_set (i := 4) scKI.nd rfl (.inl rfl) pe_xnew)
        (pss_cons (ps_set (i := 5) scKI.nd rfl (.inl rfl) (pe_lst pa_nil))
        (C8.pss_cut (ps_for PassesOwn.never rfl (pi_range1 rfl B.rng (pa_cons (pe_callB call_len_seq (by rfl) B.len PySem.boot_len (pa_cons (pv 0) pa_nil)) pa_nil)) (pg_name (i := 6) scKI.nd rfl (.inl rfl))
          (pss_one (ps_if (pt_val (pe_ix ix_list (pv 1) (pv 6) (fun _ _ => rfl)))
            (pss_cons (ps_set (i := 7) scKI.nd rfl (.inl rfl) (pe_callTy call_tuple_of (by rfl) mt (by decide +kernel) (pa_cons (pe_op op_cat (pe_lst (pa_cons (pe_ix ix_list (pv 2) (pv 6) (fun _ _ => rfl)) pa_nil))
              (pe_lc (own := [("_law_goal", 9)]) (g := gName 9) (tt := tYes) rfl scKI.nd (pi_list (pe_ix ix_list (pv 0) (pv 6) (fun _ _ => rfl)))
                (blkOk_by (N := nKI) (sc := defScope sKI) (by decide +kernel)) (fun _ _ _ _ _ => pg_name (i := 9) scKI.nd rfl (Or.inl rfl)) (fun _ _ _ _ _ => pts_nil)
                (fun _ _ _ _ _ => pe_ifExp (pt_cmpR op_isN (pv 9) pe_non (nomark _)) (pe_un un_neg pe_int) (pe_ix (r := rIxL K) ix_list (pv 2) (pv 9) (fun _ _ => rfl))))) pa_nil)))
            (C8.pss_cut (ps_if (pt_cmp (pc_xnotin (room1 hr) (pv 7) (pv 4))) (pss_one (ps_xput (room1 hr) (pv 4) (pv 7) (pe_callB call_xlen (by rfl) B.len PySem.boot_len (pa_cons (pv 4) pa_nil)) rfl)) pss_nil)
            (pss_one (ps_expr (pe_bm PySem.F.plainAttrs_list PySem.F.slot_list_append PySem.F.type_list_append mt_append (pv 5) (pa_cons (pe_xget (room1 hr) (pv 4) (pv 7) (fun _ _ => rfl)) pa_nil))))))
            (pss_one (ps_expr (pe_bm PySem.F.plainAttrs_list PySem.F.slot_list_append PySem.F.type_list_append mt_append (pv 5) (pa_cons (pe_un un_neg pe_int) pa_nil)))))))
        (pss_cons (ps_if (pt_cmpR (op_eqD hr.units) (pv 5) (pv 2) (nomark _)) (pss_one (ps_ret (pv 2))) pss_nil)
        (pss_one (ps_set (i := 2) scKI.nd rfl (.inr rfl) (pv 5))))))))
      (pss_one (ps_ret (pv 2)))), ?_⟩
    obtain ⟨ts, hts, hpr⟩ := id hg
    have htl : ts.length = W.length := Paired.length hpr
    have tl2 : (ts.map V.ref).length = W.length := by rw [List.length_map, htl]
    have sz : ∀ {j : Nat}, j ≤ W.length → j < sizeLine := fun {j} h => smallB (by omega)
    have hcC := hcut.closed hc
    have cl : ∀ i c g, (i < W.length ∧ al i = true) → goG C i c = some g → (g < W.length ∧ al g = true) := fun i c g _ e => by
      obtain ⟨h1, h2⟩ := (hcut.go i c g).mp e
      have := hc i c g h1
      exact ⟨this, (hal g this).mpr h2⟩
    refine ⟨_, rfl, a, rfl, ⟨_, SqL.of ha⟩, fun D nD => ?_⟩
    refine lc_list (K := K) (a := a) (xs := blV al W.length) (fun i G => Same H G ∧ G D = some (.lst (kiV (kdI al fun _ => 0) i))) ⟨same_new nD, upd_same⟩ (fun i G _ h => SqL.of (h.1 _ _ ha)) (fun i x G hx h => ?_) (fun G0 h => ?_)
    · obtain ⟨s1, h1⟩ := h
      have hi := (List.getElem?_eq_some_iff.mp hx).1
      rw [blV_len] at hi
      rw [blV_get _ hi] at hx
      obtain rfl := Option.some.inj hx
      have fin : ∀ y, y = kdI al (fun _ => 0) i → ∃ acc, G D = some (.lst acc) ∧ acc.length < sizeLine ∧ (Same H (upd G D (.lst (acc ++ [.int y]))) ∧ upd G D (.lst (acc ++ [.int y])) D = some (.lst (kiV (kdI al fun _ => 0) (i + 1)))) := fun y ey => by
        refine ⟨_, h1, ?_, same_put s1 nD, ?_⟩
        · rw [kiV_len]
          exact sz (by omega)
        · rw [upd_same, kiV_snoc, ey]
      refine ⟨rfl, _, rfl, _, rfl, ?_⟩
      cases e : al i with
      | true => exact iteT (fin 0 (by unfold kdI; rw [if_pos e]; rfl))
      | false => exact iteF ⟨1, rfl, fin (-1) (by unfold kdI; rw [if_neg (by rw [e]; exact Bool.false_ne_true)])⟩
    · obtain ⟨s0, h0⟩ := h
      rw [blV_len] at h0
      refine ⟨_, rfl, p, _, rfl, .inl (SqL.of (s0 _ _ hts)), _, rfl, by rw [tl2]; omega, by rw [tl2]; omega, ?_⟩
      rw [tl2, show ((W.length : Nat) : Int).toNat = W.length by omega]
      refine for_range (lo := 0) (n := W.length) (fun i σ G => ∃ (f : Nat → Nat) (l : Addr) (y3 y4 y5 y6 y7 : Option V), σ = [some (.ref p), some (.ref a), some (.ref l), y3, y4, y5, y6, y7, none, none] ∧ Same H G ∧ H l = none ∧ G l = some (.lst (kiV (kdI al f) W.length)) ∧ Pw.Parts (fun i => i < W.length ∧ al i = true) C i f) ⟨fun _ => 0, D, none, none, none, none, none, rfl, s0, nD, h0, parts_zero _ _ _⟩ ?_ ?_
      · rintro i σ G hi ⟨f, l, y3, y4, y5, y6, y7, rfl, sG, nl, hl, hP⟩
        have hP1 := parts_kind hcut hc hal hP
        intro d ob nd dx
        refine ⟨by show 0 ≤ sizeLine; decide, fun fl nfl => ?_⟩
        have nfl0 : G fl = none := NdefX.upd_none nfl
        have fd2 : fl ≠ d := fun z => by
          rw [z, upd_same] at nfl
          cases nfl
        have sd : Same G (upd (upd G d ob) fl (.lst [])) := (same_new nd).trans (same_new nfl)
        refine ⟨fun σ G1 => ∃ (y6 y7 : Option V), σ = [some (.ref p), some (.ref a), some (.ref l), some (.int (0 + (i : Int))), some (.ref d), some (.ref fl), y6, y7, none, none] ∧ Same G G1 ∧ G1 fl = some (.lst (kiV (kdI al (nmbG al (k3 C f) W.length)) W.length)), ?_, ?_⟩
        · refine ⟨_, rfl, p, _, rfl, .inl (SqL.of (sd _ _ (sG _ _ hts))), _, rfl, by rw [tl2]; omega, by rw [tl2]; omega, ?_⟩
          rw [tl2, show ((W.length : Nat) : Int).toNat = W.length by omega]
          refine for_range (lo := 0) (n := W.length) (fun j σ G1 => ∃ (kvs : List (List Leaf × V)) (y6 y7 : Option V), σ = [some (.ref p), some (.ref a), some (.ref l), some (.int (0 + (i : Int))), some (.ref d), some (.ref fl), y6, y7, none, none] ∧ Same G G1 ∧ DX P w G1 d kvs ∧
            (∀ k, valV kvs (keyZ k) = if k ∈ ddG al (k3 C f) j then some (.int (posn (ddG al (k3 C f) j) k : Nat)) else none) ∧ kvs.length = (ddG al (k3 C f) j).length ∧ G1 fl = some (.lst (kiV (kdI al (nmbG al (k3 C f) j)) j))) ⟨[], y6, y7, rfl, sd, dx.same (same_new nfl), fun k => rfl, rfl, upd_same⟩ ?_ ?_
          · rintro j σ G1 hj ⟨kvs, y6, y7, rfl, sg, dx1, hv, hkl, hfl⟩
            have e0 : (0 + (j : Int)) = ((j : Nat) : Int) := Int.zero_add _
            have s01 := sG.trans sg
            have hst : ∀ i, i < j → kdI al (nmbG al (k3 C f) (j + 1)) i = kdI al (nmbG al (k3 C f) j) i := fun i hi => by
              unfold kdI
              by_cases e : al i = true
              · rw [if_pos e, if_pos e, nmbG_step hi e]
              · rw [if_neg e, if_neg e]
            have hsz : (kiV (kdI al (nmbG al (k3 C f) j)) j).length < sizeLine := by
              rw [kiV_len]
              exact sz (by omega)
            refine ⟨_, rfl, _, rfl, a, _, _, .bl (al j), rfl, rfl, SqL.of (s01 _ _ ha), by rw [e0]; exact atI_nat (blV_get al hj), _, rfl, ?_⟩
            cases hjal : al j with
            | false =>
              have hnj : ¬ al j = true := by
                rw [hjal]
                exact Bool.false_ne_true
              have ed : ddG al (k3 C f) (j + 1) = ddG al (k3 C f) j := if_neg hnj
              refine iteF ⟨_, rfl, .inl ⟨rfl, _, SqL.of hfl⟩, 1, rfl, fl, _, _, rfl, rfl, hfl, hsz, kvs, _, _, rfl, same_put sg nfl0, dx1.keep fun b o e k => ?_, by rw [ed]; exact hv, by rw [ed]; exact hkl, ?_⟩
              · have bf : b ≠ fl := by
                  rcases k with z | ⟨ys, z⟩
                  · rw [z]
                    exact fun z => fd2 z.symm
                  · intro z2
                    rw [z2, z] at e
                    exact nomatch (hfl.symm.trans e)
                rw [upd_ne bf]
                exact e
              · rw [upd_same, kiV_snoc, kiV_congr hst]
                unfold kdI
                rw [if_neg hnj]
            | true =>
              have et : ts[j]? = some ts[j] := List.getElem?_eq_getElem (by omega)
              have ec : W[j]? = some W[j] := List.getElem?_eq_getElem hj
              have htt := paired_get hpr et ec
              generalize W[j] = pr at ec htt
              generalize ts[j] = t at et htt
              have gp : ∀ b, goG W j b = pick pr b := fun b => by
                unfold goG
                rw [ec]
                rfl
              let kv : Option Nat → Int := fun o => match o with | none => -1 | some g => kdI al f g
              have ekv : ∀ b, kv (pick pr b) = kz ((goG C j b).map f) := fun b => by
                have h := kd_goal (f := f) hcut hal hc j b
                rw [gp] at h
                exact h
              have ekj : kdI al f j = ((f j : Nat) : Int) := if_pos hjal
              refine iteT ⟨_, rfl, _, rfl, l, _, _, .int (kdI al f j), rfl, rfl, SqL.of (sg _ _ hl), by rw [e0]; exact atI_nat (kiV_get _ hj), by show 1 ≤ sizeLine; decide, fun L1 nL1 => ?_⟩
              have sL : Same G1 (upd G1 L1 (.lst [.int (kdI al f j)])) := same_new nL1
              refine ⟨_, rfl, _, rfl, p, _, _, .ref t, rfl, rfl, SqL.of (sL _ _ (s01 _ _ hts)), by rw [e0]; exact atI_nat (by rw [List.getElem?_map, et]; rfl), t, rfl, ⟨_, SqL.of (sL _ _ (s01 _ _ htt))⟩, fun D2 nD2 => ?_⟩
              refine lc_list (K := K) (a := t) (xs := [oV pr.1, oV pr.2]) (fun m G2 => Same (upd G1 L1 (.lst [.int (kdI al f j)])) G2 ∧ G2 D2 = some (.lst (([kv pr.1, kv pr.2].take m).map V.int))) ⟨same_new nD2, upd_same⟩ (fun m G2 _ h => SqL.of (h.1 _ _ (sL _ _ (s01 _ _ htt)))) (fun m v G2 hv2 h => ?_) (fun G2 h => ?_)
              · obtain ⟨s2, h2⟩ := h
                have hm : m < 2 := (List.getElem?_eq_some_iff.mp hv2).1
                obtain ⟨o, rfl, eo, ow⟩ : ∃ o, v = oV o ∧ (∀ g, o = some g → g < W.length) ∧ [kv pr.1, kv pr.2][m]? = some (kv o) := by
                  have cl2 : ∀ b g, pick pr b = some g → g < W.length := fun b g e => hc j b g (by rw [gp]; exact e)
                  rcases (show m = 0 ∨ m = 1 by omega) with rfl | rfl
                  · cases hv2
                    exact ⟨_, rfl, cl2 false, rfl⟩
                  · cases hv2
                    exact ⟨_, rfl, cl2 true, rfl⟩
                have fin : ∀ y, y = kv o → ∃ acc, G2 D2 = some (.lst acc) ∧ acc.length < sizeLine ∧ (Same (upd G1 L1 (.lst [.int (kdI al f j)])) (upd G2 D2 (.lst (acc ++ [.int y]))) ∧ upd G2 D2 (.lst (acc ++ [.int y])) D2 = some (.lst (([kv pr.1, kv pr.2].take (m + 1)).map V.int))) := fun y ey => by
                  refine ⟨_, h2, ?_, same_put s2 nD2, ?_⟩
                  · rw [List.length_map, List.length_take]
                    exact Nat.lt_of_le_of_lt (Nat.min_le_right _ _) (by show 2 < sizeLine; decide)
                  · rw [upd_same, List.take_add_one, ow, ey, List.map_append]
                    rfl
                cases o with
                | none => exact ⟨rfl, _, rfl, rfl, _, rfl, iteT ⟨1, rfl, fin (-1) rfl⟩⟩
                | some g => exact ⟨rfl, _, rfl, rfl, _, rfl, iteF ⟨_, rfl, _, rfl, l, _, _, .int (kdI al f g), rfl, rfl, SqL.of (s2 _ _ (sL _ _ (sg _ _ hl))), atI_nat (kiV_get _ (eo g rfl)), fin _ rfl⟩⟩
              · obtain ⟨s2, h2⟩ := h
                have h2 : G2 D2 = some (.lst [.int (kv pr.1), .int (kv pr.2)]) := h2
                refine ⟨L1, D2, _, _, rfl, rfl, s2 _ _ upd_same, h2, by show 3 ≤ sizeLine; decide, fun L2 nL2 => ?_⟩
                refine ⟨L2, _, rfl, .inl ⟨SqL.of upd_same, fun T nT => ?_⟩⟩
                have s5 : Same G1 (upd (upd G2 L2 (.lst ([.int (kdI al f j)] ++ [.int (kv pr.1), .int (kv pr.2)]))) T (.tup ([.int (kdI al f j)] ++ [.int (kv pr.1), .int (kv pr.2)]))) := (sL.trans s2).trans ((same_new nL2).trans (same_new nT))
                have hT5 : upd (upd G2 L2 (.lst ([.int (kdI al f j)] ++ [.int (kv pr.1), .int (kv pr.2)]))) T (.tup ([.int (kdI al f j)] ++ [.int (kv pr.1), .int (kv pr.2)])) T = some (.tup [.int (kdI al f j), .int (kv pr.1), .int (kv pr.2)]) := upd_same
                generalize upd (upd G2 L2 (.lst ([.int (kdI al f j)] ++ [.int (kv pr.1), .int (kv pr.2)]))) T (.tup ([.int (kdI al f j)] ++ [.int (kv pr.1), .int (kv pr.2)])) = G5 at s5 hT5
                have lf5 : LfVs [.int (kdI al f j), .int (kv pr.1), .int (kv pr.2)] (keyZ (k3 C f j)) := by
                  have e1 : kv pr.1 = kz ((goG C j false).map f) := ekv false
                  have e2 : kv pr.2 = kz ((goG C j true).map f) := ekv true
                  rw [ekj, e1, e2]
                  exact .cons (.int _) (.cons (.int _) (.cons (.int _) .nil))
                have hfl5 := s5 _ _ hfl
                have dx5 := dx1.same s5
                have hk5 : kvs.length ≤ 14000 := by
                  have := ddG_le al (k3 C f) j
                  omega
                refine ⟨fun σ G6 => ∃ kvs : List (List Leaf × V), σ = [some (.ref p), some (.ref a), some (.ref l), some (.int (0 + (i : Int))), some (.ref d), some (.ref fl), some (.int (0 + (j : Int))), some (.ref T), none, none] ∧ Same G G6 ∧ DX P w G6 d kvs ∧ (∀ k, valV kvs (keyZ k) = if k ∈ ddG al (k3 C f) (j + 1) then some (.int (posn (ddG al (k3 C f) (j + 1)) k : Nat)) else none) ∧ kvs.length = (ddG al (k3 C f) (j + 1)).length ∧
                  G6 fl = some (.lst (kiV (kdI al (nmbG al (k3 C f) j)) j)) ∧ G6 T = some (.tup [.int (kdI al f j), .int (kv pr.1), .int (kv pr.2)]), ?_, ?_⟩
                · refine ⟨_, rfl, _, rfl, d, _, rfl, ⟨kvs, _, T, _, dx5, rfl, hT5, lf5, rfl⟩, _, rfl, ?_⟩
                  rw [hv]
                  by_cases hm2 : k3 C f j ∈ ddG al (k3 C f) j
                  · have ed : ddG al (k3 C f) (j + 1) = ddG al (k3 C f) j := ddG_old hjal hm2
                    rw [if_pos hm2]
                    exact iteF ⟨kvs, rfl, sg.trans s5, dx5, by rw [ed]; exact hv, by rw [ed]; exact hkl, hfl5, hT5⟩
                  · have ed : ddG al (k3 C f) (j + 1) = ddG al (k3 C f) j ++ [k3 C f j] := ddG_new hjal hm2
                    rw [if_neg hm2]
                    have hvn : valV kvs (keyZ (k3 C f j)) = none := by rw [hv, if_neg hm2]
                    refine iteT ⟨_, rfl, d, kvs, rfl, dx5, by omega, _, rfl, _, rfl, d, rfl, kvs, _, T, _, dx5, Nat.lt_of_le_of_lt hk5 (by decide), rfl, hT5, lf5, fun ob2 dx6 => ?_⟩
                    have tdn : T ≠ d := fun z => by
                      obtain ⟨xs, hx⟩ := dx_at dx5
                      rw [z, hx] at hT5
                      cases hT5
                    refine ⟨_, rfl, same_put (sg.trans s5) nd, dx6, fun k => ?_, ?_, by rw [upd_ne fd2]; exact hfl5, by rw [upd_ne tdn]; exact hT5⟩
                    · rw [valV_put, ed]
                      by_cases c : keyZ k = keyZ (k3 C f j)
                      · rw [if_pos c, keyZ_inj c, if_pos (List.mem_append_right _ (List.mem_singleton.mpr rfl)), posn_new hm2, hkl]
                      · have ne : k ≠ k3 C f j := fun z => c (by rw [z])
                        rw [if_neg c, hv]
                        by_cases m2 : k ∈ ddG al (k3 C f) j
                        · rw [if_pos m2, if_pos (List.mem_append_left _ m2), posn_pre (List.prefix_append _ _) m2]
                        · rw [if_neg m2, if_neg (fun z => (List.mem_append.mp z).elim m2 fun z => ne (List.mem_singleton.mp z))]
                    · rw [putK_new _ hvn, List.length_append, ed, List.length_append, hkl]
                      rfl
                · rintro _ G6 ⟨kv6, rfl, sg6, dx6, hv6, hkl6, hfl6, hT6⟩
                  have hin : k3 C f j ∈ ddG al (k3 C f) (j + 1) := ddG_in al (k3 C f) (Nat.lt_succ_self j) hjal
                  refine ⟨_, rfl, .inl ⟨rfl, _, SqL.of hfl6⟩, _, rfl, _, rfl, d, .int (posn (ddG al (k3 C f) (j + 1)) (k3 C f j) : Nat), rfl, ⟨kv6, _, T, _, dx6, rfl, hT6, lf5, by rw [hv6, if_pos hin]⟩, fl, _, _, rfl, rfl, hfl6, hsz, kv6, _, _, rfl, same_put sg6 nfl0, dx6.keep fun b o e k => ?_, hv6, hkl6, ?_⟩
                  · have bf : b ≠ fl := by
                      rcases k with z | ⟨ys, z⟩
                      · rw [z]
                        exact fun z => fd2 z.symm
                      · intro z2
                        rw [z2, z] at e
                        exact nomatch (hfl6.symm.trans e)
                    rw [upd_ne bf]
                    exact e
                  · rw [upd_same, kiV_snoc, kiV_congr hst]
                    have el : kdI al (nmbG al (k3 C f) (j + 1)) j = (posn (ddG al (k3 C f) (j + 1)) (k3 C f j) : Nat) := if_pos hjal
                    rw [el]
          · rintro σ G1 ⟨kvs, y6, y7, h1, h2, _, _, _, h6⟩
            exact ⟨y6, y7, h1, h2, h6⟩
        · rintro _ G1 ⟨y6, y7, rfl, sg, hfl⟩
          refine ⟨_, rfl, _, rfl, kiD _ W.length, kiD _ W.length, dp_ki hfl, dp_ki (sg _ _ hl), shaped_ki _ _, shaped_ki _ _, _, rfl, ?_⟩
          by_cases he : PyData.eqv (kiD (kdI al (nmbG al (k3 C f) W.length)) W.length) (kiD (kdI al f) W.length) = true
          · rw [he]
            have hall := (eqv_ki _ _ _).mp he
            have hff : ∀ i, i < W.length → al i = true → nmbG al (k3 C f) W.length i = f i := fun i hi ai => by
              have := hall i hi
              unfold kdI at this
              rw [if_pos ai, if_pos ai] at this
              exact Int.ofNat.inj this
            have hP2 : Pw.Parts (fun i => i < W.length ∧ al i = true) C (i + 1) f := fun x y hx hy => by
              rw [← hP1 x y hx hy, hff x hx.1 hx.2, hff y hy.1 hy.2]
            exact iteT ⟨_, rfl, q f l G1 (sG.trans sg) nl (sg _ _ hl) fun x y hx ax hy ay => parts_inf cl hP hP2 ⟨hx, ax⟩ ⟨hy, ay⟩⟩
          · have he' : PyData.eqv (kiD (kdI al (nmbG al (k3 C f) W.length)) W.length) (kiD (kdI al f) W.length) = false := by
              cases e : PyData.eqv (kiD (kdI al (nmbG al (k3 C f) W.length)) W.length) (kiD (kdI al f) W.length) with
              | false => rfl
              | true => exact absurd e he
            rw [he']
            exact iteF ⟨_, rfl, nmbG al (k3 C f) W.length, fl, _, _, _, _, _, rfl, sG.trans sg, sG.free nfl0, hfl, hP1⟩
      · rintro σ G ⟨f, l, y3, y4, y5, y6, y7, rfl, sG, nl, hl, hP⟩
        refine ⟨_, rfl, q f l G sG nl hl fun x y hx ax hy ay => ?_⟩
        rw [hP x y ⟨hx, ax⟩ ⟨hy, ay⟩]
        have := same_end hcC (i := x) (j := y) (by rw [hcut.len]; exact hx) (by rw [hcut.len]; exact hy)
        rw [hcut.len] at this
        exact this
end
end K28

set_option Elab.async false
set_option linter.all false
set_option maxRecDepth 100000
set_option maxHeartbeats 4000000
namespace K28
open PySem PySem.Spec PyProof.Rows L2 Pw TL
section
variable {P : Program} {w : World} {K : PySem.W.Frag} {mg : Str → Option Value} {base : Heap}
/-! _law_web -/
abbrev sLB : Stmt := topS 65
abbrev nLB : List Str := ["_law_r", "_law_raw_here", "_law_alive_here", "_law_kinds_here", "_law_heads", "_law_numbers", "_law_at", "_law_found", "_law_head", "_law_goals", "_law_goal"]
theorem scLB : FnScope nLB ["_law_r"] (defScope sLB) := ⟨rfl, rfl, rfl, by decide +kernel, rfl, by decide +kernel, by decide +kernel⟩
def spLB : Sp := fun vs H Q _ => ∃ (T t : Addr) (xs : List Str) (lo : Int) (hi wd : Option Int), vs = [.ref T] ∧ Parts H T t xs lo hi wd ∧ RuleOk xs lo hi wd ∧ xs.length ≤ 60 ∧ (∀ s, wd = some s → s ≤ 4) ∧
  ∀ (p : Addr) (W : Gr) H', Same H H' → H p = none → GrAt H' p W → W.length ≤ 14000 → WebOf (lawR xs lo hi wd) W → Q (.ref p) H'
theorem ok_lb {f fR fA fK : Addr} {fd fdR fdA fdK : FuncData} (F : Fun K "_law_web" "_law_web" sLB f fd) (B : BN mg)
    (GR : FnOk P w K mg base CX0 3 fR fdR ["_law_r"] spRA) (rm : mg "_law_raw" = some (.ref fR)) (rk : PySem.W.keepIn K (.ref fR) = true) (rb : Binds K fdR ["_law_r"] [])
    (GA : FnOk P w K mg base CX0 1 fA fdA ["_law_raw_here"] spAL) (am : mg "_law_alive" = some (.ref fA)) (ak : PySem.W.keepIn K (.ref fA) = true) (ab : Binds K fdA ["_law_raw_here"] [])
    (GK : FnOk P w K mg base CX0 1 fK fdK ["_law_raw_here", "_law_alive_here"] spKI) (km : mg "_law_kinds" = some (.ref fK)) (kk : PySem.W.keepIn K (.ref fK) = true) (kb : Binds K fdK ["_law_raw_here", "_law_alive_here"] []) :
    FnOk P w K mg base CX0 4 f fd ["_law_r"] spLB := by
  refine F.ok scLB (fun vs H Q E h => ?_) (fun cdv A outer s H vs Q E hr h => ?_)
  · obtain ⟨T, t, xs, lo, hi, wd, rfl, _⟩ := h
    rfl
  · obtain ⟨T, t, bars, lo, hi, wd, rfl, hP, hok, h60, h4, q⟩ := h
    have r1 : Room 1 _ := hr.mono (by decide)
    refine ⟨_, pss_cons (ps_set (i := 1) scLB.nd rfl (.inl rfl) (pe_call GR hr rfl rm rk rb .nil pass0 (pa_cons (pv 0) pa_nil)))
      (pss_cons (ps_set (i := 2) scLB.nd rfl (.inr rfl) (pe_call GA r1 rfl am ak ab .nil pass0 (pa_cons (pv 1) pa_nil)))
      (pss_cons (ps_if (pt_not (pt_val (pe_ix ix_list (pv 2) pe_int (fun _ _ => rfl)))) (pss_one (ps_ret (pe_lst pa_nil))) pss_nil)
      (pss_cons (ps_set (i := 3) scLB.nd rfl (.inr rfl) (pe_call GK r1 rfl km kk kb .nil pass0 (pa_cons (pv 1) (pa_cons (pv 2) pa_nil))))
      (pss_cons (ps_set (i := 4) scLB.nd rfl (.inl rfl) (pe_lst pa_nil))
      (pss_cons (ps_set (i := 5) scLB.nd rfl (.inr rfl) pe_dnewK)
      (C8.pss_cut (ps_for PassesOwn.never rfl (pi_range1 rfl B.rng (pa_cons (pe_callB call_len_seq (by rfl) B.len PySem.boot_len (pa_cons (pv 1) pa_nil)) pa_nil)) (pg_name (i := 6) scLB.nd rfl (.inl rfl))
        (pss_one (ps_if (PW.pt (pw_and (pt_val (pe_ix ix_list (pv 2) (pv 6) (fun _ _ => rfl))) (pw_and1 (pt_cmp (pc_dnotin (room1 hr) (pe_ix ix_list (pv 3) (pv 6) (fun _ _ => rfl)) (pv 5))))))
          (pss_cons (ps_dput (room1 hr) (pv 5) (pe_ix ix_list (pv 3) (pv 6) (fun _ _ => rfl)) (pe_callB call_len_seq (by rfl) B.len PySem.boot_len (pa_cons (pv 4) pa_nil)) rfl)
          (pss_one (ps_expr (pe_bm PySem.F.plainAttrs_list PySem.F.slot_list_append PySem.F.type_list_append mt_append (pv 4) (pa_cons (pv 6) pa_nil))))) pss_nil)))
      (pss_cons (ps_set (i := 7) scLB.nd rfl (.inl rfl) (pe_lst pa_nil))
      (pss_cons (ps_for PassesOwn.never rfl (pi_list (pv 4)) (pg_name (i := 8) scLB.nd rfl (.inl rfl))
        (pss_cons (ps_setLc (i := 9) (own := [("_law_goal", 10)]) (g := gName 10) rfl scLB.nd rfl rfl (sw_true rfl rfl rfl (by decide +kernel)) (pi_list (pe_ix ix_list (pv 1) (pv 8) (fun _ _ => rfl)))
          (blkOk_by (N := nLB) (sc := defScope sLB) (by decide +kernel)) (fun _ _ _ _ _ => pg_name (i := 10) scLB.nd rfl (Or.inl rfl)) (fun _ _ _ _ _ => pts_nil)
          (fun _ _ _ _ _ => pe_ifExp (PW.pt (pw_or (pt_cmpR op_isN (pv 10) pe_non (nomark _)) (pw_or1 (pt_not (pt_val (pe_ix (r := rIxL K) ix_list (pv 2) (pv 10) (fun _ _ => rfl))))))) pe_non (pe_dget (room1 hr) (pv 5) (pe_ix (r := rIxL K) ix_list (pv 3) (pv 10) (fun _ _ => rfl)) (fun _ _ => rfl))))
        (pss_one (ps_expr (pe_bm PySem.F.plainAttrs_list PySem.F.slot_list_append PySem.F.type_list_append mt_append (pv 7) (pa_cons (pe_tup (pa_cons (pe_ix ix_list (pv 9) pe_int (fun _ _ => rfl)) (pa_cons (pe_ix ix_list (pv 9) pe_int (fun _ _ => rfl)) pa_nil))) pa_nil))))))
      (pss_one (ps_ret (pv 7))))))))))), ?_⟩
    refine ⟨_, rfl, T, t, bars, lo, hi, wd, rfl, hP, hok, h60, h4, fun p1 W G1 s1 n1 g1 hW raw => ?_⟩
    obtain ⟨C, hcut⟩ := cut_has raw.closed
    have hc := raw.closed
    have h0 := raw.pos
    obtain ⟨ts, hts, hpr⟩ := id g1
    have htl : ts.length = W.length := Paired.length hpr
    have tl2 : (ts.map V.ref).length = W.length := by rw [List.length_map, htl]
    have sz : ∀ {j : Nat}, j ≤ W.length → j < sizeLine := fun {j} h => smallB (by omega)
    refine ⟨_, rfl, p1, W, rfl, g1, hc, hW, fun al la G2 s2 nla hla hal => ?_⟩
    have s12 := s1.trans s2
    have l0 : al 0 = true ↔ Lst (lawR bars lo hi wd) [] := (hal 0 h0).trans (raw.lives (x := []) rfl)
    refine ⟨_, rfl, la, _, 0, .bl (al 0), rfl, rfl, SqL.of hla, atI_nat (j := 0) (blV_get al h0), _, rfl, ?_⟩
    cases a0 : al 0 with
    | false =>
      have nl : ¬ Lst (lawR bars lo hi wd) [] := fun z => by
        rw [l0.mpr z] at a0
        cases a0
      exact iteT ⟨by show 0 ≤ sizeLine; decide, fun l nl2 => q l [] _ (s12.trans (same_new nl2)) (s12.free nl2) ⟨[], upd_same, .nil⟩ (Nat.zero_le _) (WebOf.empty nl)⟩
    | true =>
      have hts2 := s2 _ _ hts
      have g2 : GrL G2 p1 W := ⟨ts, hts2, Paired.mapP hpr fun _ _ z => s2 _ _ z⟩
      refine iteF ⟨_, rfl, _, rfl, p1, la, W, C, al, rfl, g2, hc, hW, hla, hal, hcut, fun fk lk2 G3 s3 nlk hlk hf => ?_⟩
      have s13 := s12.trans s3
      have s23 := s2.trans s3
      refine ⟨by show 0 ≤ sizeLine; decide, fun hd nhd => ?_⟩
      intro dn ndn
      have ndn3 : G3 dn = none := NdefX.upd_none ndn
      have hdd : hd ≠ dn := fun z => by
        rw [← z, upd_same] at ndn
        cases ndn
      have sd : Same G3 (upd (upd G3 hd (.lst [])) dn (.dK [])) := (same_new nhd).trans (same_new ndn)
      refine ⟨fun σ G => ∃ (hs : List Nat) (kvs : List (Key × V)) (y6 : Option V), σ = [some (.ref T), some (.ref p1), some (.ref la), some (.ref lk2), some (.ref hd), some (.ref dn), y6, none, none, none, none] ∧ Same G3 G ∧ G hd = some (.lst (nsV hs)) ∧ G dn = some (.dK kvs) ∧ HeadsTo al fk W.length hs ∧
        ∀ k : Nat, valV kvs (.inl (k : Int)) = if k ∈ ddG al fk W.length then some (.int (posn (ddG al fk W.length) k : Nat)) else none, ?_, ?_⟩
      · refine ⟨_, rfl, p1, _, rfl, .inl (SqL.of (sd _ _ (s3 _ _ hts2))), _, rfl, by rw [tl2]; omega, by rw [tl2]; omega, ?_⟩
        rw [tl2, show ((W.length : Nat) : Int).toNat = W.length by omega]
        refine for_range (lo := 0) (n := W.length) (fun i σ G => ∃ (hs : List Nat) (kvs : List (Key × V)) (y6 : Option V), σ = [some (.ref T), some (.ref p1), some (.ref la), some (.ref lk2), some (.ref hd), some (.ref dn), y6, none, none, none, none] ∧ Same G3 G ∧ G hd = some (.lst (nsV hs)) ∧ G dn = some (.dK kvs) ∧ HeadsTo al fk i hs ∧ kvs.length ≤ i ∧
          ∀ k : Nat, valV kvs (.inl (k : Int)) = if k ∈ ddG al fk i then some (.int (posn (ddG al fk i) k : Nat)) else none) ⟨[], [], none, rfl, sd, same_new ndn _ _ upd_same, upd_same, HeadsTo.zero al fk, Nat.le_refl _, fun k => rfl⟩ ?_ ?_
        · rintro i σ G hi ⟨hs, kvs, y6, rfl, sg, hhd, hdn, hH, hkl, hv⟩
          have e0 : (0 + (i : Int)) = ((i : Nat) : Int) := Int.zero_add _
          have hlen : hs.length ≤ i := by
            have := ddG_le al fk i
            rw [← hH.kinds, List.length_map] at this
            exact this
          refine ⟨_, rfl, _, rfl, la, _, _, .bl (al i), rfl, rfl, SqL.of (sg _ _ (s3 _ _ hla)), by rw [e0]; exact atI_nat (blV_get al hi), _, rfl, ?_⟩
          cases hai : al i with
          | false =>
            have hn : ¬ al i = true := by
              rw [hai]
              exact Bool.false_ne_true
            have ed : ddG al fk (i + 1) = ddG al fk i := if_neg hn
            exact iteF (iteF ⟨hs, kvs, _, rfl, sg, hhd, hdn, hH.skip fun z => absurd z hn, by omega, by rw [ed]; exact hv⟩)
          | true =>
            have ekd : kdI al fk i = ((fk i : Nat) : Int) := if_pos hai
            have hat : atI (kiV (kdI al fk) W.length) (0 + (i : Int)) = some (.int (fk i : Nat)) := by
              rw [e0, ← ekd]
              exact atI_nat (kiV_get _ hi)
            have sqk := SqL.of (K := K) (sg _ _ hlk)
            refine iteT ⟨_, rfl, _, rfl, lk2, _, _, .int (fk i : Nat), rfl, rfl, sqk, hat, _, rfl, dn, _, rfl, DGet.k (k := .inl (fk i : Int)) hdn, _, rfl, ?_⟩
            rw [hv]
            by_cases hm : fk i ∈ ddG al fk i
            · rw [if_pos hm]
              have ed : ddG al fk (i + 1) = ddG al fk i := ddG_old hai hm
              exact iteF ⟨hs, kvs, _, rfl, sg, hhd, hdn, hH.skip fun _ => hm, by omega, by rw [ed]; exact hv⟩
            · rw [if_neg hm]
              have ed : ddG al fk (i + 1) = ddG al fk i ++ [fk i] := ddG_new hai hm
              have nl : (nsV hs).length = hs.length := List.length_map ..
              refine iteT ⟨_, rfl, hd, _, rfl, .inl (SqL.of hhd), _, rfl, _, rfl, _, rfl, lk2, _, _, .int (fk i : Nat), rfl, rfl, sqk, hat, dn, _, rfl, DPut.k (k := .inl (fk i : Int)) hdn (Nat.lt_of_le_of_lt hkl (sz (by omega))), ?_⟩
              have hhd2 : upd G dn (.dK (putK kvs (.inl (fk i : Int)) (.int ((nsV hs).length : Nat)))) hd = some (.lst (nsV hs)) := by
                rw [upd_ne hdd]
                exact hhd
              refine ⟨_, rfl, .inl ⟨rfl, _, SqL.of hhd2⟩, _, rfl, hd, _, _, rfl, rfl, hhd2, by rw [nl]; exact sz (by omega), hs ++ [i], _, _, rfl, same_put (same_put sg ndn3) nhd, ?_, by rw [upd_ne (fun z => hdd z.symm), upd_same], hH.new hai hm, ?_, fun k => ?_⟩
              · rw [upd_same, e0]
                unfold nsV
                rw [List.map_append]
                rfl
              · have := length_putK kvs (.inl (fk i : Int)) (.int ((nsV hs).length : Nat))
                omega
              · rw [valV_put, ed]
                by_cases c : k = fk i
                · rw [c, if_pos rfl, if_pos (List.mem_append_right _ (List.mem_singleton.mpr rfl)), posn_new hm, nl, ← hH.kinds, List.length_map]
                · rw [if_neg (inl_ne c), hv]
                  by_cases m : k ∈ ddG al fk i
                  · rw [if_pos m, if_pos (List.mem_append_left _ m), posn_pre (List.prefix_append _ _) m]
                  · rw [if_neg m, if_neg (fun z => (List.mem_append.mp z).elim m fun z => c (List.mem_singleton.mp z))]
        · rintro σ G ⟨hs, kvs, y6, h1, h2, h3, h4, h5, _, h7⟩
          exact ⟨hs, kvs, y6, h1, h2, h3, h4, h5, h7⟩
      · rintro _ G4 ⟨hs, kvs, y6, rfl, sg, hhd, hdn, hH, hv⟩
        have HD := heads_of (C := C) hal h0 a0 hf hH
        let num : Nat → Nat := fun g => posn (ddG al fk W.length) (fk g)
        let M : Gr := hs.map fun h => ((goG C h false).map num, (goG C h true).map num)
        have hM : M.length = hs.length := List.length_map ..
        have hhl : hs.length ≤ W.length := by
          have := ddG_le al fk W.length
          rw [← hH.kinds, List.length_map] at this
          exact this
        refine ⟨by show 0 ≤ sizeLine; decide, fun fo nfo => ?_⟩
        have sf : Same G4 (upd G4 fo (.lst [])) := same_new nfo
        have sgf := sg.trans sf
        refine ⟨_, rfl, hd, rfl, ⟨_, SqL.of (sf _ _ hhd)⟩, for_list (K := K) (a := hd) (xs := nsV hs) (fun j σ G => ∃ (us : List Addr) (y8 y9 : Option V), σ = [some (.ref T), some (.ref p1), some (.ref la), some (.ref lk2), some (.ref hd), some (.ref dn), y6, some (.ref fo), y8, y9, none] ∧ Same G4 G ∧ G fo = some (.lst (us.map V.ref)) ∧ Paired (fun t (pr : Pr) => G t = some (.tup [oV pr.1, oV pr.2])) us (M.take j)) ⟨[], none, none, rfl, sf, upd_same, .nil⟩ ?_ ?_ ?_⟩
        · rintro j σ G _ ⟨us, y8, y9, _, sj, _⟩
          exact SqL.of (sj _ _ hhd)
        · rintro j x σ G hx ⟨us, y8, y9, rfl, sj, hfo, hus⟩
          have hjl : j < hs.length := by
            have := (List.getElem?_eq_some_iff.mp hx).1
            unfold nsV at this
            rw [List.length_map] at this
            exact this
          have eh : hs[j]? = some hs[j] := List.getElem?_eq_getElem hjl
          generalize hs[j] = h at eh
          have hx2 : (nsV hs)[j]? = some (.int (h : Nat)) := by
            unfold nsV
            rw [List.getElem?_map, eh]
            rfl
          rw [hx2] at hx
          obtain rfl := Option.some.inj hx
          have hhW := (hH.ok h (List.mem_of_getElem? eh)).1
          have et : ts[h]? = some ts[h] := List.getElem?_eq_getElem (by omega)
          have ec : W[h]? = some W[h] := List.getElem?_eq_getElem hhW
          have htt := paired_get hpr et ec
          generalize W[h] = pr at ec htt
          generalize ts[h] = t at et htt
          have gp : ∀ b, goG W h b = pick pr b := fun b => by
            unfold goG
            rw [ec]
            rfl
          have s3j := sg.trans sj
          have s1j := s23.trans s3j
          let gm : Option Nat → Option Nat := fun o => (o.bind fun g => if al g = true then some g else none).map num
          have egm : ∀ b, gm (pick pr b) = (goG C h b).map num := fun b => by
            rw [← cut_goal hcut hal hc h b, gp]
          refine ⟨_, rfl, _, rfl, p1, _, _, .ref t, rfl, rfl, SqL.of (s1j _ _ hts), atI_nat (by rw [List.getElem?_map, et]; rfl), t, rfl, ⟨_, SqL.of (s1j _ _ htt)⟩, fun D nD => ?_⟩
          refine lc_list (K := K) (a := t) (xs := [oV pr.1, oV pr.2]) (fun m G5 => Same G G5 ∧ G5 D = some (.lst ([oV (gm pr.1), oV (gm pr.2)].take m))) ⟨same_new nD, upd_same⟩ (fun m G5 _ h => SqL.of (h.1 _ _ (s1j _ _ htt))) (fun m v G5 hv2 h => ?_) (fun G5 h => ?_)
          · obtain ⟨s5, h5⟩ := h
            have hm : m < 2 := (List.getElem?_eq_some_iff.mp hv2).1
            obtain ⟨o, rfl, eo, ow⟩ : ∃ o, v = oV o ∧ (∀ g, o = some g → g < W.length) ∧ [oV (gm pr.1), oV (gm pr.2)][m]? = some (oV (gm o)) := by
              have cl2 : ∀ b g, pick pr b = some g → g < W.length := fun b g e => hc h b g (by rw [gp]; exact e)
              rcases (show m = 0 ∨ m = 1 by omega) with rfl | rfl
              · cases hv2
                exact ⟨_, rfl, cl2 false, rfl⟩
              · cases hv2
                exact ⟨_, rfl, cl2 true, rfl⟩
            have fin : ∀ y, y = oV (gm o) → ∃ acc, G5 D = some (.lst acc) ∧ acc.length < sizeLine ∧ (Same G (upd G5 D (.lst (acc ++ [y]))) ∧ upd G5 D (.lst (acc ++ [y])) D = some (.lst ([oV (gm pr.1), oV (gm pr.2)].take (m + 1)))) := fun y ey => by
              refine ⟨_, h5, ?_, same_put s5 nD, ?_⟩
              · rw [List.length_take]
                exact Nat.lt_of_le_of_lt (Nat.min_le_right _ _) (by show 2 < sizeLine; decide)
              · rw [upd_same, List.take_add_one, ow, ey]
                rfl
            cases o with
            | none => exact ⟨rfl, _, rfl, rfl, _, rfl, iteT (iteT (fin .non rfl))⟩
            | some g =>
              have hg := eo g rfl
              have s35 := s3j.trans s5
              refine ⟨rfl, _, rfl, rfl, _, rfl, iteF ⟨_, rfl, _, rfl, la, _, _, .bl (al g), rfl, rfl, SqL.of (s35 _ _ (s3 _ _ hla)), atI_nat (blV_get al hg), _, rfl, ?_⟩⟩
              cases hag : al g with
              | false =>
                refine iteT (fin .non ?_)
                show _ = oV ((if al g = true then some g else none).map num)
                rw [if_neg (by rw [hag]; exact Bool.false_ne_true)]
                rfl
              | true =>
                have ekd : kdI al fk g = ((fk g : Nat) : Int) := if_pos hag
                have hat : atI (kiV (kdI al fk) W.length) ((g : Nat) : Int) = some (.int (fk g : Nat)) := by
                  rw [← ekd]
                  exact atI_nat (kiV_get _ hg)
                refine iteF ⟨_, rfl, _, rfl, _, rfl, lk2, _, _, .int (fk g : Nat), rfl, rfl, SqL.of (s35 _ _ hlk), hat, dn, .int (posn (ddG al fk W.length) (fk g) : Nat), rfl, ?_, fin _ ?_⟩
                · have := DGet.k (k := .inl (fk g : Int)) (s5 _ _ (sj _ _ hdn))
                  rw [hv, if_pos (ddG_in al fk hg hag)] at this
                  exact this
                · show _ = oV ((if al g = true then some g else none).map num)
                  rw [if_pos hag]
                  rfl
          · obtain ⟨s5, h5⟩ := h
            have h5 : G5 D = some (.lst [oV (gm pr.1), oV (gm pr.2)]) := h5
            have hfo5 := s5 _ _ hfo
            have hul : us.length = j := by
              have := Paired.length hus
              rw [List.length_take, hM] at this
              omega
            refine ⟨_, rfl, .inl ⟨rfl, _, SqL.of hfo5⟩, _, rfl, D, _, 0, oV (gm pr.1), rfl, rfl, SqL.of h5, atI_nat (j := 0) rfl, _, rfl, D, _, 1, oV (gm pr.2), rfl, rfl, SqL.of h5, atI_nat (j := 1) rfl, by show 2 ≤ sizeLine; decide, fun T2 nT => ?_⟩
            have s6 := s5.trans (same_new (o := .tup [oV (gm pr.1), oV (gm pr.2)]) nT)
            have hfo6 := s6 _ _ hfo
            refine ⟨fo, _, _, rfl, rfl, hfo6, by rw [List.length_map, hul]; exact sz (by omega), us ++ [T2], _, _, rfl, same_put (sj.trans s6) nfo, ?_, ?_⟩
            · rw [upd_same, List.map_append]
              rfl
            · have kp : ∀ c zs, G c = some (.tup zs) → upd (upd G5 T2 (.tup [oV (gm pr.1), oV (gm pr.2)])) fo (.lst (us.map V.ref ++ [.ref T2])) c = some (.tup zs) := fun c zs e => by
                rw [upd_ne (fun z => by rw [z, hfo] at e; cases e)]
                exact s6 _ _ e
              have eM : M[j]? = some ((goG C h false).map num, (goG C h true).map num) := by
                show (hs.map _)[j]? = _
                rw [List.getElem?_map, eh]
                rfl
              rw [List.take_add_one, eM]
              refine Paired.snoc (Paired.mapP hus fun _ _ z => kp _ _ z) ?_
              have TD : T2 ≠ fo := fun z => by
                rw [z, hfo5] at nT
                cases nT
              rw [upd_ne TD, upd_same]
              show some (HO.tup [oV (gm (pick pr false)), oV (gm (pick pr true))]) = _
              rw [egm, egm]
        · rintro σ G ⟨us, y8, y9, rfl, sj, hfo, hus⟩
          have nl : (nsV hs).length = hs.length := List.length_map ..
          rw [nl, ← hM, List.take_length] at hus
          refine ⟨_, rfl, q fo M G (s13.trans (sg.trans sj)) ((s13.trans sg).free nfo) ⟨us, hfo, hus⟩ (by rw [hM]; omega) (web_heads raw hcut (l0.mp a0) HD hM fun k c hk => ?_)⟩
          unfold goG
          have ek : hs[k]? = some hs[k] := List.getElem?_eq_getElem hk
          have e1 : M[k]? = some ((goG C hs[k] false).map num, (goG C hs[k] true).map num) := by
            show (hs.map _)[k]? = _
            rw [List.getElem?_map, ek]
            rfl
          have e2 : hs.getD k 0 = hs[k] := by
            rw [List.getD_eq_getElem?_getD, ek]
            rfl
          rw [e1]
          show pick _ c = (goG C (hs.getD k 0) c).map num
          rw [e2]
          cases c <;> rfl
end
end K28

set_option Elab.async false
set_option linter.all false
set_option maxRecDepth 100000
set_option maxHeartbeats 4000000
namespace K28
open PySem PySem.Spec PyProof.Rows L2 Pw TL
section
variable {P : Program} {w : World} {K : PySem.W.Frag} {mg : Str → Option Value} {base : Heap}
theorem cut_whole {xs : List V} {lo hi : Option Int} (h : HT.sIx xs.length 0 lo = 0 ∧ HT.sIx xs.length xs.length hi = xs.length) : cutV xs lo hi = xs := by
  unfold cutV
  rw [h.1, h.2, Nat.sub_zero, List.drop_zero, List.take_length]
theorem slA_use {H : Hp} {Q : VK} {a : Addr} {xs : List V} {lo hi : Option Int} (h : SqT K H a xs) (q : ∀ b H', Same H H' → SqT K H' b (cutV xs lo hi) → Q (.ref b) H') : rSlA K (.ref a) lo hi H Q :=
  ⟨a, xs, rfl, h, fun hw => q a H (Same.refl H) (by rw [cut_whole hw]; exact h), fun _ p np => q p _ (same_new np) (.inl (.inl upd_same))⟩
theorem catA_use {H : Hp} {Q : VK} {a b : Addr} {xs ys : List V} (ha : SqT K H a xs) (hb : SqT K H b ys) (hz : xs.length + ys.length ≤ sizeLine) (q : ∀ c H', Same H H' → SqT K H' c (xs ++ ys) → Q (.ref c) H') : rCatA K (.ref a) (.ref b) H Q :=
  ⟨a, b, xs, ys, rfl, rfl, ha, hb, hz, fun e => q b H (Same.refl H) (by rw [e]; exact hb), fun _ e => q a H (Same.refl H) (by rw [e, List.append_nil]; exact ha), fun _ _ p np => q p _ (same_new np) (.inl (.inl upd_same))⟩
theorem cut5 (xs : List Str) : cutV (xs.map V.str) none (some 5) = (xs.take 5).map V.str := by
  unfold cutV
  rw [show HT.sIx (xs.map V.str).length (xs.map V.str).length (some 5) = min 5 (xs.map V.str).length from HT.sIx_nat _ _ 5]
  show List.take (min 5 (xs.map V.str).length - 0) (xs.map V.str) = _
  rw [Nat.sub_zero, List.map_take]
  exact (List.take_eq_take_min).symm
/-- what good parts are -/
structure RuleD (xs : List Str) (lo : Int) (hi wd : Option Int) : Prop where
  bad : partBad xs lo hi wd = none
  short : Short xs
theorem RuleD.split {xs : List Str} {lo : Int} {hi wd : Option Int} (r : RuleD xs lo hi wd) : wordsB xs = true ∧ lowB lo = true ∧ highB lo hi = true ∧ spanB wd = true := by
  have h := r.bad
  unfold partBad at h
  split at h
  · split at h
    · split at h
      · split at h
        · exact ⟨by assumption, by assumption, by assumption, by assumption⟩
        · cases h
      · cases h
    · cases h
  · cases h
theorem RuleD.good {xs : List Str} {lo : Int} {hi wd : Option Int} (r : RuleD xs lo hi wd) : Good xs := by
  have h := r.split.1
  unfold wordsB at h
  rw [Bool.and_eq_true, Bool.and_eq_true] at h
  exact ⟨(cntD_nodup xs).mp (of_decide_eq_true h.1.2), List.all_eq_true.mp h.2⟩
theorem RuleD.six {xs : List Str} {lo : Int} {hi wd : Option Int} (r : RuleD xs lo hi wd) : xs.length ≤ 6 := by
  have h := r.split.1
  unfold wordsB at h
  rw [Bool.and_eq_true, Bool.and_eq_true] at h
  exact of_decide_eq_true h.1.1
theorem RuleD.four {xs : List Str} {lo : Int} {hi wd : Option Int} (r : RuleD xs lo hi wd) : ∀ s, wd = some s → 1 ≤ s ∧ s ≤ 4 := fun s e => by
  have h := r.split.2.2.2
  subst e
  exact of_decide_eq_true h
theorem word_ne {x : Str} (h : wordB x = true) : tl x ≠ [] ∧ (tl x).length ≤ 5 := by
  unfold wordB at h
  have h3 := of_decide_eq_true (Bool.and_eq_true_iff.mp h).1
  refine ⟨fun e => ?_, h3.2⟩
  rw [e] at h3
  exact absurd h3.1 (by decide)
theorem RuleD.ok {xs : List Str} {lo : Int} {hi wd : Option Int} (r : RuleD xs lo hi wd) : RuleOk xs lo hi wd := by
  obtain ⟨_, h2, h3, _⟩ := r.split
  have a := of_decide_eq_true (p := 0 ≤ lo ∧ lo ≤ 3) h2
  refine ⟨fun x hx => (word_ne (r.good.2 x hx)).1, fun x hx => (word_ne (r.good.2 x hx)).2, a.1, a.2, fun h e => ?_, fun s e => ?_⟩
  · subst e
    have b := of_decide_eq_true (p := max 1 lo ≤ h ∧ h ≤ 7) h3
    omega
  · have := r.four s e
    omega
theorem RuleD.mk2 {xs zs : List Str} {lo : Int} {hi wd : Option Int} (r : RuleD xs lo hi wd) (h6 : zs.length ≤ 6) (hg : Good zs) (hs : Short zs) : RuleD zs lo hi wd := by
  obtain ⟨_, h2, h3, h4⟩ := r.split
  refine ⟨?_, hs⟩
  unfold partBad
  have e1 : wordsB zs = true := by
    unfold wordsB
    rw [decide_eq_true h6, decide_eq_true ((cntD_nodup zs).mpr hg.1)]
    exact List.all_eq_true.mpr hg.2
  rw [if_pos e1, if_pos h2, if_pos h3, if_pos h4]
/-! _law_any_web -/
abbrev sVW : Stmt := topS 73
abbrev nVW : List Str := ["_law_draw", "_law_r", "_law_word_here", "_law_bars"]
theorem scVW : FnScope nVW ["_law_draw"] (defScope sVW) := ⟨rfl, rfl, rfl, by decide +kernel, rfl, by decide +kernel, by decide +kernel⟩
def spVW : Sp := fun vs H Q _ => ∃ (p q : Addr) (ns : List Int), vs = [.ref p] ∧ Dr p q ns H ∧ ∀ (U T t g : Addr) (xs : List Str) (lo : Int) (hi wd : Option Int) (W : Gr) H', RuleD xs lo hi wd → Parts H' T t xs lo hi wd → GrAt H' g W → W.length ≤ 14000 → WebOf (lawR xs lo hi wd) W → H' U = some (.tup [.ref T, .ref g]) → H g = none → Go p q ns H H' → Q (.ref U) H'
theorem ok_vw {f fP fA fB : Addr} {fd fdP fdA fdB : FuncData} (F : Fun K "_law_any_web" "_law_any_web" sVW f fd) (B : BN mg) (mso : mg "sorted" = none) (mse : mg "set" = none)
    (GP : FnOk P w K mg base CX0 1 fP fdP ["_law_draw", "_law_total_of"] spPU) (pm : mg "_law_pull" = some (.ref fP)) (pk : PySem.W.keepIn K (.ref fP) = true) (pb : Binds K fdP ["_law_draw", "_law_total_of"] [])
    (GA : FnOk P w K mg base CX0 5 fA fdA ["_law_draw"] (spPA 6)) (am : mg "_law_parts" = some (.ref fA)) (ak : PySem.W.keepIn K (.ref fA) = true) (ab : Binds K fdA ["_law_draw"] [])
    (GB : FnOk P w K mg base CX0 4 fB fdB ["_law_r"] spLB) (bm : mg "_law_web" = some (.ref fB)) (bk : PySem.W.keepIn K (.ref fB) = true) (bb : Binds K fdB ["_law_r"] []) :
    FnOk P w K mg base CX0 6 f fd ["_law_draw"] spVW := by
  refine F.ok scVW (fun vs H Q E h => ?_) (fun cdv A outer s H vs Q E hr h => ?_)
  · obtain ⟨p, q, ns, rfl, _⟩ := h
    rfl
  · obtain ⟨p, q, ns, rfl, hD, k⟩ := h
    have r1 : Room 1 _ := hr.mono (by decide)
    have r4 : Room 4 _ := hr.mono (by decide)
    refine ⟨_, pss_cons (ps_set (i := 1) scVW.nd rfl (.inl rfl) (pe_call GA hr rfl am ak ab .nil pass0 (pa_cons (pv 0) pa_nil)))
      (C8.pss_cut (ps_if (pt_cmpR op_eq (pe_call GP r1 rfl pm pk pb .nil pass0 (pa_cons (pv 0) (pa_cons pe_int pa_nil))) pe_int (nomark _))
        (pss_cons (ps_set (i := 2) scVW.nd rfl (.inl rfl) (pe_ix ix_list (pe_lst (pa_cons pe_str (pa_cons pe_str (pa_cons pe_str (pa_cons pe_str pa_nil))))) (pe_call GP r1 rfl pm pk pb .nil pass0 (pa_cons (pv 0) (pa_cons pe_int pa_nil))) (fun _ _ => rfl)))
        (pss_cons (ps_set (i := 3) scVW.nd rfl (.inl rfl) (pe_ix ix_list (pe_lst (pa_cons (pe_tup (pa_cons (pv 2) pa_nil)) (pa_cons (pe_callTy call_tuple_of (by rfl) B.tup (by decide +kernel) (pa_cons (pe_sortT rfl (by rfl) mso (by rfl) mse (pe_op op_catA (pe_slice sl_tupA (pe_ix ix_tup (pv 1) pe_int (fun _ _ => rfl)) po_none (po_some pe_int)) (pe_tup (pa_cons (pv 2) pa_nil)))) pa_nil)) pa_nil)))
            (pe_call GP r1 rfl pm pk pb .nil pass0 (pa_cons (pv 0) (pa_cons pe_int pa_nil))) (fun _ _ => rfl)))
        (pss_one (ps_set (i := 1) scVW.nd rfl (.inl rfl) (pe_tup (pa_cons (pv 3) (pa_cons (pe_ix ix_tup (pv 1) pe_int (fun _ _ => rfl)) (pa_cons (pe_ix ix_tup (pv 1) pe_int (fun _ _ => rfl)) (pa_cons (pe_ix ix_tup (pv 1) pe_int (fun _ _ => rfl)) pa_nil))))))))) pss_nil)
      (pss_one (ps_ret (pe_tup (pa_cons (pv 1) (pa_cons (pe_call GB r4 rfl bm bk bb .nil pass0 (pa_cons (pv 1) pa_nil)) pa_nil)))))), ?_⟩
    refine ⟨_, rfl, p, q, ns, rfl, hD, fun T t xs lo hi wd H1 h6 hsg hsx hpb nT nt hP g1 => ?_⟩
    have rd : RuleD xs lo hi wd := ⟨hpb, hsg.1⟩
    have Tp := hD.nn nT
    have tp := hD.nn nt
    refine ⟨fun σ H2 => ∃ (T t : Addr) (xs : List Str) (y2 y3 : Option V), σ = [some (.ref p), some (.ref T), y2, y3] ∧ RuleD xs lo hi wd ∧ Parts H2 T t xs lo hi wd ∧ Go p q ns H H2, ?_, ?_⟩
    · refine ⟨_, rfl, p, q, ns, 6, rfl, by decide, by decide, g1.dr, fun v H2 v0 v1 sx2 hD2 => ⟨rfl, _, rfl, ?_⟩⟩
      have g2 := g1.next sx2 hD2
      have hP2 : Parts H2 T t xs lo hi wd := ⟨sx2 _ _ hP.1 Tp, sx2 _ _ hP.2 tp⟩
      refine ite2 (fun _ => ?_) (fun _ => ⟨T, t, xs, none, none, rfl, rd, hP2, g2⟩)
      refine ⟨by show 4 ≤ sizeLine; decide, fun l nl => ⟨_, rfl, p, q, ns, 4, rfl, by decide, by decide, (g2.new nl).dr, fun u H3 u0 u1 sx3 hD3 => ?_⟩⟩
      have g3 := (g2.new (o := .lst [.str "0", .str "1", .str "01", .str "10"]) nl).next sx3 hD3
      have hl3 : H3 l = some (.lst [.str "0", .str "1", .str "01", .str "10"]) := sx3 _ _ upd_same (g2.dr.nn nl)
      have hP3 : Parts H3 T t xs lo hi wd := ⟨sx3 _ _ (same_new nl _ _ hP2.1) Tp, sx3 _ _ (same_new nl _ _ hP2.2) tp⟩
      obtain ⟨x, hx, hxw, hxs⟩ : ∃ x : Str, atI [V.str "0", .str "1", .str "01", .str "10"] u = some (.str x) ∧ wordB x = true ∧ ((tl x).length ≤ 1000 ∧ PyData.strOk x = true) := by
        have : u = 0 ∨ u = 1 ∨ u = 2 ∨ u = 3 := by omega
        rcases this with rfl | rfl | rfl | rfl
        · exact ⟨"0", rfl, by decide, by decide, by decide +kernel⟩
        · exact ⟨"1", rfl, by decide, by decide, by decide +kernel⟩
        · exact ⟨"01", rfl, by decide, by decide, by decide +kernel⟩
        · exact ⟨"10", rfl, by decide, by decide, by decide +kernel⟩
      refine ⟨l, _, u, .str x, rfl, rfl, SqL.of hl3, hx, ?_⟩
      refine ⟨_, rfl, by show 1 ≤ sizeLine; decide, fun T1 n1 => ?_⟩
      have s4 := same_new (o := .tup [.str x]) n1
      have g4 := g3.new (o := .tup [.str x]) n1
      have hP4 := hP3.same s4
      refine ⟨_, rfl, T, _, 0, .ref t, rfl, rfl, .inl (.inl hP4.1), rfl, 5, rfl, slA_use (.inl (.inl hP4.2)) fun b H5 s5 hb => ?_⟩
      rw [cut5] at hb
      refine ⟨_, rfl, by show 1 ≤ sizeLine; decide, fun T2 n2 => ?_⟩
      have s6 := s5.trans (same_new (o := .tup [.str x]) n2)
      refine catA_use (Same.tup (same_new n2) hb) (.inl (.inl upd_same)) ?_ fun c H7 s7 hc => ?_
      · rw [List.length_map, List.length_take]
        exact Nat.le_trans (show min 5 xs.length + 1 ≤ 6 by omega) (by decide)
      have ec : (xs.take 5).map V.str ++ [V.str x] = (xs.take 5 ++ [x]).map V.str := by rw [List.map_append]; rfl
      rw [ec] at hc
      refine ⟨c, xs.take 5 ++ [x], rfl, hc, ?_, fun ys a hp hsrt na => ?_⟩
      · rw [List.length_append, List.length_take]
        exact Nat.le_trans (show min 5 xs.length + 1 ≤ 6 by omega) (by decide)
      have s8 := (s6.trans s7).trans (same_new (o := .lst (ys.map V.str)) na)
      refine ⟨a, _, rfl, .inl ⟨SqL.of upd_same, fun t2 nt2 => ?_⟩⟩
      have s9 := s8.trans (same_new (o := .tup (ys.map V.str)) nt2)
      refine ⟨by show 2 ≤ sizeLine; decide, fun l2 nl2 => ?_⟩
      have s10 := s9.trans (same_new (o := .lst [.ref T1, .ref t2]) nl2)
      have g10 : Go p q ns H _ := g4.next (SameX.of s10) (g4.dr.same s10)
      have t2p : t2 ≠ p := (g4.next (SameX.of s8) (g4.dr.same s8)).dr.nn nt2
      have l2p : l2 ≠ p := (g4.next (SameX.of s9) (g4.dr.same s9)).dr.nn nl2
      have T1p := g3.dr.nn n1
      refine ⟨_, rfl, p, q, ns, 2, rfl, by decide, by decide, g10.dr, fun z H11 z0 z1 sx11 hD11 => ?_⟩
      have g11 := g10.next sx11 hD11
      have hP11 : Parts H11 T t xs lo hi wd := ⟨sx11 _ _ (s10 _ _ hP4.1) Tp, sx11 _ _ (s10 _ _ hP4.2) tp⟩
      have hT1 : H11 T1 = some (.tup [.str x]) := sx11 _ _ (s10 _ _ upd_same) T1p
      have ht2 : H11 t2 = some (.tup (ys.map V.str)) := sx11 _ _ (same_new nl2 _ _ upd_same) t2p
      have hl2 : H11 l2 = some (.lst [.ref T1, .ref t2]) := sx11 _ _ upd_same l2p
      have ry : RuleD ys lo hi wd := by
        have hall : ∀ y ∈ ys, y ∈ xs ∨ y = x := fun y hy => by
          have := (uniq_mem y (xs.take 5 ++ [x]) []).mp (hp.mem_iff.mp hy)
          rcases this with h | h
          · cases h
          · rcases List.mem_append.mp h with h | h
            · exact .inl (List.mem_of_mem_take h)
            · exact .inr (List.mem_singleton.mp h)
        refine rd.mk2 ?_ ⟨hp.nodup_iff.mpr (uniq_nodup _ _ List.nodup_nil), fun y hy => ?_⟩ fun y hy => ?_
        · rw [hp.length_eq]
          refine Nat.le_trans (uniq_len _ _) ?_
          rw [List.length_nil, List.length_append, List.length_take]
          show 0 + (min 5 xs.length + 1) ≤ 6
          omega
        · rcases hall y hy with h | rfl
          · exact rd.good.2 y h
          · exact hxw
        · rcases hall y hy with h | rfl
          · exact rd.short y h
          · exact hxs
      have rx : RuleD [x] lo hi wd := rd.mk2 (by show 1 ≤ 6; decide) ⟨List.nodup_cons.mpr ⟨List.not_mem_nil, List.nodup_nil⟩, fun y hy => by rw [List.mem_singleton.mp hy]; exact hxw⟩ fun y hy => by rw [List.mem_singleton.mp hy]; exact hxs
      obtain ⟨b2, zs, hb2, hz2, rz⟩ : ∃ (b2 : Addr) (zs : List Str), atI [V.ref T1, .ref t2] z = some (.ref b2) ∧ H11 b2 = some (.tup (zs.map V.str)) ∧ RuleD zs lo hi wd := by
        have : z = 0 ∨ z = 1 := by omega
        rcases this with rfl | rfl
        · exact ⟨T1, [x], rfl, hT1, rx⟩
        · exact ⟨t2, ys, rfl, ht2, ry⟩
      refine ⟨l2, _, z, .ref b2, rfl, rfl, SqL.of hl2, hb2, ?_⟩
      refine ⟨_, rfl, _, rfl, T, _, 1, .int lo, rfl, rfl, .inl (.inl hP11.1), rfl, _, rfl, T, _, 2, vI hi, rfl, rfl, .inl (.inl hP11.1), rfl, _, rfl, T, _, 3, vI wd, rfl, rfl, .inl (.inl hP11.1), rfl, by show 4 ≤ sizeLine; decide, fun T3 n3 => ?_⟩
      exact ⟨T3, b2, zs, _, _, rfl, rz, ⟨upd_same, same_new n3 _ _ hz2⟩, g11.new n3⟩
    rintro _ H2 ⟨T, t, xs, y2, y3, rfl, rd, hP, g2⟩
    refine ⟨_, rfl, _, rfl, T, t, xs, lo, hi, wd, rfl, hP, rd.ok, Nat.le_trans rd.six (by decide), (fun s e => (rd.four s e).2), fun g W H3 s3 ng hg hW hw => ?_⟩
    refine ⟨by show 2 ≤ sizeLine; decide, fun U nU => ?_⟩
    have g3 := g2.next (SameX.of s3) (g2.dr.same s3)
    have s4 := s3.trans (same_new (o := .tup [.ref T, .ref g]) nU)
    refine k U T t g xs lo hi wd W _ rd (hP.same s4) ?_ hW hw upd_same (g2.free ng) (g3.new nU)
    obtain ⟨ts, h1, h2⟩ := hg
    exact ⟨ts, same_new nU _ _ h1, Paired.mapP h2 fun _ _ z => same_new nU _ _ z⟩
end
end K28

set_option Elab.async false
set_option linter.all false
set_option maxRecDepth 100000
set_option maxHeartbeats 4000000
namespace K28
open PySem PySem.Spec PyProof.Rows L2 Pw TL
section
variable {P : Program} {w : World} {K : PySem.W.Frag} {mg : Str → Option Value} {base : Heap}
open LamX
/-! _law_why -/
abbrev sWH : Stmt := topS 72
abbrev nWH : List Str := ["_law_ask", "_law_told", "_law_word_here", "_law_e"]
theorem scWH : FnScope nWH ["_law_ask"] (defScope sWH) := ⟨rfl, rfl, rfl, by decide +kernel, rfl, by decide +kernel, by decide +kernel⟩
structure ClsY (K : PySem.W.Frag) (mg : Str → Option Value) (C1 C2 C3 C4 C5 C6 C7 C8 : Addr) : Prop where
  str : mg "str" = none
  m1 : mg "BadRow" = some (.ref C1)
  m2 : mg "BadRule" = some (.ref C2)
  m3 : mg "BadPace" = some (.ref C3)
  m4 : mg "TooWide" = some (.ref C4)
  x4 : XfC K C4
  no4 : PySem.W.findIn K (.ref C4) "stands" = some none
  me4 : PySem.W.exmOne K (.ref C4) (.ref C4) = some true
  ne4_1 : PySem.W.exmOne K (.ref C4) (.ref C1) = some false
  ne4_2 : PySem.W.exmOne K (.ref C4) (.ref C2) = some false
  ne4_3 : PySem.W.exmOne K (.ref C4) (.ref C3) = some false
  m5 : mg "Unlawful" = some (.ref C5)
  m6 : mg "BadLength" = some (.ref C6)
  m7 : mg "BadText" = some (.ref C7)
  m8 : mg "PulseError" = some (.ref C8)
def whyL (C1 C2 C3 C4 C5 C6 C7 C8 : Addr) : List (Value × (Addr → Value → Option Addr → TS)) := [(.ref C1, tsNone), (.ref C2, tsNone), (.ref C3, tsNone), (.ref C4, tsNum C4 "toowide " "stands"), (.ref C5, tsNone), (.ref C6, tsNone), (.ref C7, tsNone), (.ref C8, tsNone)]
theorem why_ok {X : Cx} {C1 C2 C3 C4 C5 C6 C7 C8 g : Addr} {cdg : Value} {q : Str} (T : ClsY X.K X.mg C1 C2 C3 C4 C5 C6 C7 C8) :
    GivesW X nWH "_law_why" (defScope sWH) g cdg (defBody sWH) "_law_ask" q (TTwhy X.K (whyL C1 C2 C3 C4 C5 C6 C7 C8)) := by
  refine why_gives (tn := "_law_told") (wn := "_law_word_here") (en := "_law_e") scWH rfl rfl rfl (by decide) (by decide) (by decide) (by decide) (fun s H => ?_)
  refine .cons ⟨rfl, by decide, .inl T.m1⟩ (fun _ _ _ _ _ _ _ => pss_never) ?_
  refine .cons ⟨rfl, by decide, .inl T.m2⟩ (fun _ _ _ _ _ _ _ => pss_never) ?_
  refine .cons ⟨rfl, by decide, .inl T.m3⟩ (fun _ _ _ _ _ _ _ => pss_never) ?_
  refine .cons ⟨rfl, by decide, .inl T.m4⟩ (fun a oe cls d pn hz hf => pss_one (ps_set (i := 2) scWH.nd rfl (.inl rfl) (pe_op op_add_str pe_str (pe_callTy call_str_int (by rfl) T.str (by decide +kernel) (pa_cons (pe_xf T.x4 T.no4 hz hf (pv 3)) pa_nil))))) ?_
  refine .cons ⟨rfl, by decide, .inl T.m5⟩ (fun _ _ _ _ _ _ _ => pss_never) ?_
  refine .cons ⟨rfl, by decide, .inl T.m6⟩ (fun _ _ _ _ _ _ _ => pss_never) ?_
  refine .cons ⟨rfl, by decide, .inl T.m7⟩ (fun _ _ _ _ _ _ _ => pss_never) ?_
  refine .cons ⟨rfl, by decide, .inl T.m8⟩ (fun _ _ _ _ _ _ _ => pss_never) ?_
  exact .nil
def erC (C1 C2 C3 C4 C5 C6 C7 C8 : Addr) : Er → Addr
  | .row _ => C1
  | .rule _ => C2
  | .pace _ => C3
  | .wide _ => C4
  | .unl _ => C5
  | .len _ => C6
  | .txt _ => C7
  | .plain _ => C8
def erA : Er → Prop
  | .row _ => False
  | .rule _ => False
  | .pace _ => False
  | .wide _ => True
  | .unl _ => False
  | .len _ => False
  | .txt _ => False
  | .plain _ => False
/-- what why tells: the value, or None and the error's word -/
theorem why_gen {C1 C2 C3 C4 C5 C6 C7 C8 : Addr} {H : Hp} {Q : VK} (T : ClsY K mg C1 C2 C3 C4 C5 C6 C7 C8) (Gd : V → Hp → Prop) (Rz : Er → Hp → Prop)
    (hQ1 : ∀ (p : Addr) (G G0 : Hp) (v : V), Gd v G0 → Same G0 G → G p = some (.tup [v, .str ""]) → G0 p = none → Q (.ref p) G)
    (hQ2 : ∀ (p : Addr) (G G0 : Hp) (e : Er), Rz e G0 → Same G0 G → G p = some (.tup [.non, .str e.word]) → G0 p = none → Q (.ref p) G)
    {tl' : XK → Hp → VK → Prop} (ht : ∀ (E : XK) (Q' : VK), (∀ v G, Gd v G → Q' v G) → (∀ (e : Er) (d : Addr) (G : Hp), erA e → Rz e G → e.Small → G d = some (.xd e.fld) → E (.ref (erC C1 C2 C3 C4 C5 C6 C7 C8 e)) (some d) G) → tl' E H Q') :
    TTwhy K (whyL C1 C2 C3 C4 C5 C6 C7 C8) tl' H Q := by
  refine ⟨fun cls dd G => ∃ (e : Er) (d : Addr), erA e ∧ Rz e G ∧ e.Small ∧ cls = .ref (erC C1 C2 C3 C4 C5 C6 C7 C8 e) ∧ dd = some d ∧ G d = some (.xd e.fld), fun v G => Gd v G, ?_, ?_, ?_⟩
  · rintro f cls dd G ⟨e, d, ha, hz, hs, rfl, rfl, hd⟩
    cases e with
    | row _ => exact ha.elim
    | rule _ => exact ha.elim
    | pace _ => exact ha.elim
    | wide i =>
      refine ⟨false, T.ne4_1, (fun z => nomatch z), fun _ => ?_⟩
      refine ⟨false, T.ne4_2, (fun z => nomatch z), fun _ => ?_⟩
      refine ⟨false, T.ne4_3, (fun z => nomatch z), fun _ => ?_⟩
      refine ⟨true, T.me4, fun _ a na => ?_, fun z => nomatch z⟩
      refine ⟨.ref a, rfl, rfl, rfl, d, _, .int (i : Nat), rfl, hd, rfl, (i : Int), rfl, logS hs, _, _, rfl, rfl, sizeN hs, ?_⟩
      exact ⟨.non, rfl, _, rfl, by show 2 ≤ sizeLine; decide, fun p np => hQ2 p _ G _ hz (same_new np) upd_same np⟩
    | unl _ => exact ha.elim
    | len _ => exact ha.elim
    | txt _ => exact ha.elim
    | plain _ => exact ha.elim
  · rintro v G gd p np
    exact hQ1 p _ G v gd (same_new np) upd_same np
  · exact ht _ _ (fun v G gd => gd) (fun e d G ha hz hs hd => ⟨e, d, ha, hz, hs, rfl, rfl, hd⟩)
end
end K28

set_option Elab.async false
set_option linter.all false
set_option maxRecDepth 100000
set_option maxHeartbeats 4000000
namespace K28
open PySem PySem.Spec PyProof.Rows L2 Pw TL
section
variable {P : Program} {w : World} {K : PySem.W.Frag} {mg : Str → Option Value} {base : Heap}
open LamX
theorem Dr.at {p q : Addr} {ns : List Int} {H : Hp} (h : Dr p q ns H) : ∃ xs, H p = some (.lst xs) := let ⟨_, a, b, c, e, _⟩ := h; ⟨_, e⟩
theorem Parts.x {H H1 : Hp} {p T t : Addr} {xs : List Str} {lo : Int} {hi wd : Option Int} {ys : List V} (h : Parts H T t xs lo hi wd) (hp : H p = some (.lst ys)) (s : SameX p H H1) : Parts H1 T t xs lo hi wd :=
  ⟨s _ _ h.1 (fun z => by have := h.1; rw [z, hp] at this; cases this), s _ _ h.2 (fun z => by have := h.2; rw [z, hp] at this; cases this)⟩
theorem Dr.ext {p q : Addr} {ns : List Int} {H H' : Hp} (h : Dr p q ns H) (s : ExtN H H') : Dr p q ns H' := ⟨s _ _ h.1 (fun _ z => by cases z), let ⟨a, b, c, e, r⟩ := h.2; ⟨a, b, c, s _ _ e (fun _ z => by cases z), r⟩⟩
theorem ext_same {H H' : Hp} (s : Same H H') : ExtN H H' := fun b o e _ => s b o e
theorem tabs_same {T : List (Addr × Str)} {H H' : Hp} (t : Tabs T H) (s : Same H H') : Tabs T H' := t.ext s
theorem tabs_x {T : List (Addr × Str)} {H H' : Hp} {p : Addr} {xs : List V} (t : Tabs T H) (hp : H p = some (.lst xs)) (s : SameX p H H') : Tabs T H' := fun e he => by
  obtain ⟨ps, h1, h2, h3⟩ := t e he
  refine ⟨ps, s _ _ h1 (fun z => ?_), h2, fun pos cv hc => ?_⟩
  · rw [z, hp] at h1
    cases h1
  · obtain ⟨c, e1, e2⟩ := h3 pos cv hc
    refine ⟨c, e1, s _ _ e2 (fun z => ?_)⟩
    rw [z, hp] at e2
    have e3 : HO.lst xs = CodeO p e.2 := Option.some.inj e2
    unfold CodeO at e3
    cases e3
theorem Parts.ext {H H1 : Hp} {T t : Addr} {xs : List Str} {lo : Int} {hi wd : Option Int} (h : Parts H T t xs lo hi wd) (s : ExtN H H1) : Parts H1 T t xs lo hi wd := ⟨s _ _ h.1 (fun _ z => by cases z), s _ _ h.2 (fun _ z => by cases z)⟩
theorem RuleAt.x {H H1 : Hp} {p R r pw : Addr} {xs : List Str} {lo : Int} {hi wd : Option Int} {ys : List V} (h : RuleAt H R r pw xs lo hi wd) (hp : H p = some (.lst ys)) (ne : pw ≠ p) (s : SameX p H H1) : RuleAt H1 R r pw xs lo hi wd := by
  obtain ⟨dx, h1, h2⟩ := h
  exact ⟨dx, s _ _ h1 (fun z => by rw [z, hp] at h1; cases h1), s _ _ h2 ne⟩
theorem up_ne {G : Hp} {pf b : Addr} {o u : HO} (h : G b = some u) (ne : b ≠ pf) : upd G pf o b = some u := by
  rw [upd_ne ne]
  exact h
theorem lk_pair {H : Hp} {n : Nat} {t u : Addr} {v e : V} {z : Str} (h1 : H t = some (.tup [v, .str z])) (h2 : H u = some (.tup [e, .str z])) (L : Lk K H n v e) : Lk K H (n + 1) (.ref t) (.ref u) :=
  .tup (.inl (.inl h1)) (.inl (.inl h2)) rfl (by show 2 ≤ 1001; decide) (fun i a b ha hb => match i, ha, hb with
    | 0, ha, hb => by
      obtain rfl : v = a := Option.some.inj ha
      obtain rfl : e = b := Option.some.inj hb
      exact L
    | 1, ha, hb => by
      obtain rfl : V.str z = a := Option.some.inj ha
      obtain rfl : V.str z = b := Option.some.inj hb
      exact .str z
    | _ + 2, ha, _ => by simp at ha)
theorem RuleAt.ext {H H1 : Hp} {R r pw : Addr} {xs : List Str} {lo : Int} {hi wd : Option Int} (h : RuleAt H R r pw xs lo hi wd) (s : ExtN H H1) : RuleAt H1 R r pw xs lo hi wd := by
  obtain ⟨dx, h1, h2⟩ := h
  exact ⟨dx, s _ _ h1 (fun _ z => by cases z), s _ _ h2 (fun _ z => by cases z)⟩
theorem GrAt.same {G G' : Hp} {p : Addr} {W : Gr} (h : GrAt G p W) (s : Same G G') : GrAt G' p W := h.keep (fun _ e => s _ _ e) fun _ _ e => s _ _ e
theorem GrAt.ext {G G' : Hp} {p : Addr} {W : Gr} (h : GrAt G p W) (s : ExtN G G') : GrAt G' p W := h.keep (fun _ e => s _ _ e (fun _ z => by cases z)) fun _ _ e => s _ _ e (fun _ z => by cases z)
theorem GrAt.x {G G' : Hp} {p l : Addr} {W : Gr} {xs : List V} (h : GrAt G p W) (hl : G l = some (.lst xs)) (ne : p ≠ l) (s : SameX l G G') : GrAt G' p W := h.keep (fun _ e => s _ _ e ne) fun b ys e => s _ _ e (fun z => by rw [z, hl] at e; cases e)
theorem ext_trans {H H1 H2 : Hp} (a : ExtN H H1) (b : ExtN H1 H2) : ExtN H H2 := fun x o e n => b x o (a x o e n) n
theorem lk_o {H : Hp} {n : Nat} (o : Option Nat) : Lk K H n (oV o) (oV o) := by
  cases o with
  | none => exact .non
  | some i => exact .int _
theorem lk_two {H : Hp} {n : Nat} {t u : Addr} {a b : V} (h1 : H t = some (.tup [a, b])) (h2 : H u = some (.tup [a, b])) (La : Lk K H n a a) (Lb : Lk K H n b b) : Lk K H (n + 1) (.ref t) (.ref u) :=
  .tup (.inl (.inl h1)) (.inl (.inl h2)) rfl (by show 2 ≤ 1001; decide) (fun i x y hx hy => match i, hx, hy with
    | 0, hx, hy => by
      obtain rfl : a = x := Option.some.inj hx
      obtain rfl : a = y := Option.some.inj hy
      exact La
    | 1, hx, hy => by
      obtain rfl : b = x := Option.some.inj hx
      obtain rfl : b = y := Option.some.inj hy
      exact Lb
    | _ + 2, hx, _ => by simp at hx)
/-- two told webs that are one -/
theorem lk_gr {H : Hp} {n : Nat} {a g : Addr} {W : Gr} (ha : GrAt H a W) (hg : GrAt H g W) (hW : W.length ≤ 1001) : Lk K H (n + 2) (.ref a) (.ref g) := by
  obtain ⟨ts, h1, h2⟩ := ha
  obtain ⟨us, h3, h4⟩ := hg
  have l1 := Paired.length h2
  have l2 := Paired.length h4
  refine .lst (SqL.of h1) (SqL.of h3) (by rw [List.length_map, List.length_map]; omega) (by rw [List.length_map]; omega) (fun i x y hx hy => ?_)
  rw [List.getElem?_map] at hx hy
  cases e1 : ts[i]? with
  | none =>
    rw [e1] at hx
    cases hx
  | some t =>
    cases e2 : us[i]? with
    | none =>
      rw [e2] at hy
      cases hy
    | some u =>
      rw [e1] at hx
      rw [e2] at hy
      obtain rfl : V.ref t = x := Option.some.inj hx
      obtain rfl : V.ref u = y := Option.some.inj hy
      have hi : i < W.length := by
        have := (List.getElem?_eq_some_iff.mp e1).1
        omega
      have e3 : W[i]? = some W[i] := List.getElem?_eq_getElem hi
      have p1 := paired_get h2 e1 e3
      have p2 := paired_get h4 e2 e3
      exact lk_two p1 p2 (lk_o _) (lk_o _)
end
section
open LamX NdefX
def webOut (C : Addr) (T : List (Addr × Str)) (W : Gr) (H : Hp) (E : XK) : Prop := 40 < W.length → ∀ (d : Addr) (G : Hp), ExtN H G → Tabs T G → G d = some (.xd [("stands", .int (W.length : Nat))]) → E (.ref C) (some d) G
end
end K28

set_option Elab.async false
set_option linter.all false
set_option maxRecDepth 100000
set_option maxHeartbeats 4000000
namespace K28
open PySem PySem.Spec PyProof.Rows L2 Pw TL
section
variable {P : Program} {w : World} {K : PySem.W.Frag} {mg : Str → Option Value} {base : Heap}
open LamX
/-! blurred_ways -/
abbrev sBW : Stmt := topS 37
abbrev nBW : List Str := ["stands","ways","one","other","sign","goal","other_goal"]
theorem scBW : FnScope nBW ["stands"] (defScope sBW) := ⟨rfl, rfl, rfl, by decide +kernel, rfl, by decide +kernel, by decide +kernel⟩
theorem chV01B : chV (Str.ofString "01") = [V.str ⟨#[48]⟩, V.str ⟨#[49]⟩] := rfl
/-- the edge from an unlike pair by a sign, where it has one -/
def edC (W : Gr) (a b : Nat) (c : Bool) : Option (Bool × Nat × Nat) := (goG W a c).bind fun g => (goG W b c).bind fun h => if g = h then none else some (c, g, h)
def edN (W : Gr) (a b : Nat) (n : Nat) : List (Bool × Nat × Nat) := ([false, true].take n).filterMap (edC W a b)
/-- a list of edges -/
def EdAt (H : Hp) (l : Addr) (es : List (Bool × Nat × Nat)) : Prop := ∃ ts : List Addr, H l = some (.lst (ts.map V.ref)) ∧ Paired (fun t (e : Bool × Nat × Nat) => ∃ u, H t = some (.tup [.str ⟨#[sgn e.1]⟩, .ref u]) ∧ H u = some (.tup [.int (e.2.1 : Nat), .int (e.2.2 : Nat)])) ts es
theorem EdAt.keep {G G' : Hp} {p : Addr} {es : List (Bool × Nat × Nat)} (h : EdAt G p es) (hp : ∀ xs, G p = some (.lst xs) → G' p = some (.lst xs)) (k : ∀ b ys, G b = some (.tup ys) → G' b = some (.tup ys)) : EdAt G' p es := let ⟨ts, a, b⟩ := h; ⟨ts, hp _ a, Paired.mapP b fun _ _ ⟨u, x, y⟩ => ⟨u, k _ _ x, k _ _ y⟩⟩
theorem EdAt.same {G G' : Hp} {p : Addr} {es : List (Bool × Nat × Nat)} (h : EdAt G p es) (s : Same G G') : EdAt G' p es := h.keep (fun _ e => s _ _ e) fun _ _ e => s _ _ e
/-- the pairs of unlike stands: all rows before m, and in row m all before k -/
def rowU (n m : Nat) : List (Nat × Nat) := ((List.range n).filter fun b => !decide (b = m)).map fun b => (m, b)
def unN (n m k : Nat) : List (Nat × Nat) := (List.range m).flatMap (rowU n) ++ rowU k m
theorem rowU_snoc (k m : Nat) : rowU (k + 1) m = rowU k m ++ (if k = m then [] else [(m, k)]) := by
  unfold rowU
  rw [List.range_succ, List.filter_append, List.map_append]
  congr 1
  rw [List.filter_cons, List.filter_nil]
  by_cases e : k = m
  · rw [if_pos e, decide_eq_true e]
    rfl
  · rw [if_neg e, decide_eq_false e]
    rfl
theorem unN_snoc (n m k : Nat) : unN n m (k + 1) = unN n m k ++ (if k = m then [] else [(m, k)]) := by
  unfold unN
  rw [rowU_snoc, List.append_assoc]
theorem unN_row (n m : Nat) : unN n m n = unN n (m + 1) 0 := by
  unfold unN
  rw [List.range_succ, List.flatMap_append, show rowU 0 (m + 1) = [] from rfl, List.append_nil]
  congr 1
  show rowU n m = rowU n m ++ []
  rw [List.append_nil]
theorem rowU_mem {n m : Nat} {r : Nat × Nat} : r ∈ rowU n m ↔ r.1 = m ∧ r.2 < n ∧ r.2 ≠ m := by
  unfold rowU
  rw [List.mem_map]
  constructor
  · rintro ⟨b, hb, rfl⟩
    obtain ⟨h1, h2⟩ := List.mem_filter.mp hb
    exact ⟨rfl, List.mem_range.mp h1, fun e => by rw [decide_eq_true e] at h2; cases h2⟩
  · rintro ⟨rfl, h1, h2⟩
    exact ⟨r.2, List.mem_filter.mpr ⟨List.mem_range.mpr h1, by rw [decide_eq_false h2]; rfl⟩, rfl⟩
theorem unN_mem {n m k : Nat} {r : Nat × Nat} : r ∈ unN n m k ↔ (r.1 < m ∧ r.2 < n ∧ r.2 ≠ r.1) ∨ (r.1 = m ∧ r.2 < k ∧ r.2 ≠ m) := by
  unfold unN
  rw [List.mem_append, rowU_mem, List.mem_flatMap]
  constructor
  · rintro (⟨a, ha, h⟩ | h)
    · obtain ⟨h1, h2, h3⟩ := rowU_mem.mp h
      exact .inl ⟨by rw [h1]; exact List.mem_range.mp ha, h2, by rw [h1]; exact h3⟩
    · exact .inr h
  · rintro (⟨h1, h2, h3⟩ | h)
    · exact .inl ⟨r.1, List.mem_range.mpr h1, rowU_mem.mpr ⟨rfl, h2, h3⟩⟩
    · exact .inr h
theorem rowU_le (n m : Nat) : (rowU n m).length ≤ n := by
  unfold rowU
  rw [List.length_map]
  refine Nat.le_trans (List.length_filter_le _ _) ?_
  rw [List.length_range]
  exact Nat.le_refl _
theorem unN_le (n : Nat) : ∀ m k, (unN n m k).length ≤ n * m + k
  | 0, k => by
    show (rowU k 0).length ≤ _
    have := rowU_le k 0
    omega
  | m + 1, k => by
    have h1 := unN_le n m n
    rw [unN_row] at h1
    have h2 : (unN n (m + 1) k).length = (unN n (m + 1) 0).length + (rowU k (m + 1)).length := by
      unfold unN
      rw [List.length_append, List.length_append]
      rfl
    have h3 := rowU_le k (m + 1)
    rw [Nat.mul_succ]
    omega
/-- the dict of all ways -/
def WyAt (H : Hp) (d : Addr) (W : Gr) (us : List (Nat × Nat)) : Prop := ∃ ls : List Addr, H d = some (.dT ((us.zip ls).map fun p => (ky p.1, V.ref p.2))) ∧ Paired (fun l (r : Nat × Nat) => EdAt H l (edN W r.1 r.2 2)) ls us
theorem zip_any {us : List (Nat × Nat)} {ls : List Addr} {r : Nat × Nat} (h : r ∉ us) : valV ((us.zip ls).map fun p => (ky p.1, V.ref p.2)) (ky r) = none := by
  induction us generalizing ls with
  | nil => rfl
  | cons u us ih =>
    cases ls with
    | nil => rfl
    | cons l ls =>
      have hne : ¬ ky u = ky r := fun e => h (by rw [ky_inj e]; exact List.mem_cons_self ..)
      show valV ((ky u, V.ref l) :: (us.zip ls).map fun p => (ky p.1, V.ref p.2)) (ky r) = none
      rw [valV_neg hne]
      exact ih fun z => h (List.mem_cons_of_mem _ z)
theorem edN_snoc (W : Gr) (a b : Nat) {n : Nat} {c : Bool} (h : [false, true][n]? = some c) : edN W a b (n + 1) = edN W a b n ++ (edC W a b c).toList := by
  unfold edN
  rw [List.take_add_one, h, List.filterMap_append]
  show _ ++ List.filterMap (edC W a b) [c] = _
  cases e : edC W a b c with
  | none => simp [e]
  | some x => simp [e]
def spBW : Sp := fun vs H Q _ => ∃ (a : Addr) (W : Gr), vs = [.ref a] ∧ GrAt H a W ∧ W.length ≤ 40 ∧ ∀ (d : Addr) (G : Hp), Same H G → H d = none → WyAt G d W (unN W.length W.length 0) → Q (.ref d) G
theorem ok_bw {f : Addr} {fd : FuncData} {k : Nat} (F : Fun K "blurred_ways" "blurred_ways" sBW f fd) (B : BN mg) (mz : mg "zip" = none) : FnOk P w K mg base CX0 (k + 1) f fd ["stands"] spBW := by
  refine F.ok scBW (fun vs H Q E h => ?_) (fun cdv A outer s H vs Q E hr h => ?_)
  · obtain ⟨a, W, rfl, _⟩ := h
    rfl
  · obtain ⟨a, W, rfl, hg, h40, q⟩ := h
    refine ⟨_, (pss_cons (ps_set (i := 1) scBW.nd rfl (.inl rfl) pe_dnewT)
      (pss_cons (ps_for PassesOwn.never rfl (pi_range1 rfl B.rng (pa_cons (pe_callB call_len_seq (by rfl) B.len PySem.boot_len (pa_cons (pv 0) pa_nil)) pa_nil)) (pg_name (i := 2) scBW.nd rfl (.inl rfl))
        (pss_one (ps_for PassesOwn.never rfl (pi_range1 rfl B.rng (pa_cons (pe_callB call_len_seq (by rfl) B.len PySem.boot_len (pa_cons (pv 0) pa_nil)) pa_nil)) (pg_name (i := 3) scBW.nd rfl (.inl rfl))
          (pss_one (ps_if (pt_cmpR op_ne (pv 2) (pv 3) (nomark _))
            (pss_one (ps_dput (room1 hr) (pv 1) (pe_tup (pa_cons (pv 2) (pa_cons (pv 3) pa_nil))) (pe_lc (own := [("sign", 4), ("goal", 5), ("other_goal", 6)]) (g := gTup K 3 (gCons (gName 4) (gCons (gName 5) (gCons (gName 6) gNil)))) rfl scBW.nd (pi_zip3 (by rfl) mz (pa_cons pe_str (pa_cons (pe_ix ix_list (pv 0) (pv 2) (fun _ _ => rfl)) (pa_cons (pe_ix ix_list (pv 0) (pv 3) (fun _ _ => rfl)) pa_nil)))) (blkOk_by (N := nBW) (sc := defScope sBW) (by decide +kernel)) (fun _ _ _ _ _ => pg_tup rfl (pgs_cons (pg_name (i := 4) scBW.nd rfl (Or.inl rfl)) (pgs_cons (pg_name (i := 5) scBW.nd rfl (Or.inl rfl)) (pgs_cons (pg_name (i := 6) scBW.nd rfl (Or.inl rfl)) pgs_nil)))) (fun _ _ _ _ _ => pts_one (PW.pt (pw_and (pt_cmpR op_notN (pv 5) pe_non (nomark _)) (pw_and (pt_cmpR op_notN (pv 6) pe_non (nomark _)) (pw_and1 (pt_cmpR op_ne (pv 5) (pv 6) (nomark _))))))) (fun _ _ _ _ _ => (pe_tup (pa_cons (pv 4) (pa_cons (pe_tup (pa_cons (pv 5) (pa_cons (pv 6) pa_nil))) pa_nil))))) rfl))
            pss_nil)))))
      (pss_one (ps_ret (pv 1))))), ?_⟩
    obtain ⟨gs, hgs, hgp⟩ := id hg
    have hgl : (gs.map V.ref).length = W.length := by
      rw [List.length_map]
      exact Paired.length hgp
    refine fun d nd => ?_
    have s0 := same_new (o := .dT []) nd
    refine ⟨_, rfl, a, _, rfl, .inl (SqL.of (s0 _ _ hgs)), ?_⟩
    rw [hgl]
    refine ⟨(W.length : Int), rfl, by omega, by omega, for_range (lo := 0) (n := W.length) (fun i σ G => (∃ y2 y3 : Option V, σ = [some (.ref a), some (.ref d), y2, y3, none, none, none]) ∧ Same H G ∧ WyAt G d W (unN W.length i 0))
      ⟨⟨_, _, rfl⟩, s0, [], upd_same, .nil⟩ (fun i σ G hi h => ?_) (fun σ G h => ?_)⟩
    · obtain ⟨⟨y2, y3, rfl⟩, sG, hW⟩ := h
      refine ⟨_, rfl, a, _, rfl, .inl (SqL.of (sG _ _ hgs)), ?_⟩
      rw [hgl]
      refine ⟨(W.length : Int), rfl, by omega, by omega, for_range (lo := 0) (n := W.length) (fun j σ G => (∃ y3 : Option V, σ = [some (.ref a), some (.ref d), some (.int (0 + (i : Int))), y3, none, none, none]) ∧ Same H G ∧ WyAt G d W (unN W.length i j))
        ⟨⟨_, rfl⟩, sG, hW⟩ (fun j σ G hj h => ?_) (fun σ G h => ⟨h.1.elim fun y e => ⟨_, _, e⟩, h.2.1, by rw [← unN_row]; exact h.2.2⟩)⟩
      clear sG hW
      obtain ⟨⟨y3, rfl⟩, sG, hW⟩ := h
      refine ⟨_, rfl, _, rfl, rfl, _, rfl, ?_⟩
      have hsn := unN_snoc W.length i j
      by_cases eij : j = i
      · rw [if_pos eij, List.append_nil] at hsn
        rw [decide_eq_true (show V.int (0 + (i : Int)) = V.int (0 + (j : Int)) by rw [eij])]
        exact iteF ⟨⟨_, rfl⟩, sG, by rw [hsn]; exact hW⟩
      rw [if_neg eij] at hsn
      rw [decide_eq_false (show ¬ V.int (0 + (i : Int)) = V.int (0 + (j : Int)) from fun e => eij (by have := V.int.inj e; omega))]
      obtain ⟨gi, hgi⟩ : ∃ gi, gs[i]? = some gi := ⟨_, List.getElem?_eq_getElem (by rw [List.length_map] at hgl; omega)⟩
      obtain ⟨gj, hgj⟩ : ∃ gj, gs[j]? = some gj := ⟨_, List.getElem?_eq_getElem (by rw [List.length_map] at hgl; omega)⟩
      have eWi : W[i]? = some W[i] := List.getElem?_eq_getElem hi
      have eWj : W[j]? = some W[j] := List.getElem?_eq_getElem hj
      have hti := paired_get hgp hgi eWi
      have htj := paired_get hgp hgj eWj
      have goi : ∀ c, goG W i c = pick W[i] c := fun c => by
        unfold goG
        rw [eWi]
        rfl
      have goj : ∀ c, goG W j c = pick W[j] c := fun c => by
        unfold goG
        rw [eWj]
        rfl
      generalize W[i] = pr at eWi hti goi
      generalize W[j] = qr at eWj htj goj
      refine iteT ⟨_, rfl, _, rfl, a, _, _, .ref gi, rfl, rfl, SqL.of (sG _ _ hgs), at_of (Int.zero_add _) (by rw [List.getElem?_map, hgi]; rfl), _, rfl, _, rfl, a, _, _, .ref gj, rfl, rfl, SqL.of (sG _ _ hgs), at_of (Int.zero_add _) (by rw [List.getElem?_map, hgj]; rfl), ?_⟩
      refine ⟨.str "01", .tup gi, .tup gj, _, _, _, rfl, rfl, SqT.of (sG _ _ hti), SqT.of (sG _ _ htj), fun D nD => ?_⟩
      refine lc_it (walk_zip3 (xs := chV (Str.ofString "01")) (ys := [oV pr.1, oV pr.2]) (zs := [oV qr.1, oV qr.2]) (n := 2) rfl) (fun j2 G5 => Same G G5 ∧ EdAt G5 D (edN W i j j2)) ⟨same_new nD, [], upd_same, .nil⟩ (fun j2 G5 _ h => ⟨rfl, SqT.of (h.1 _ _ (sG _ _ hti)), SqT.of (h.1 _ _ (sG _ _ htj))⟩) (fun j2 v G5 G6 hj2 h y => ?_) (fun G5 h => ?_)
      · obtain ⟨s5, ts, hD, hts⟩ := h
        obtain ⟨T3, x3, y3, z3, rfl, nT3, rfl, e1, e2, e3⟩ := y
        obtain ⟨c, ec, rfl, rfl, rfl⟩ : ∃ c : Bool, [false, true][j2]? = some c ∧ x3 = V.str ⟨#[sgn c]⟩ ∧ y3 = oV (pick pr c) ∧ z3 = oV (pick qr c) := by
          have e1 : (chV (Str.ofString "01"))[j2]? = some x3 := e1
          have e2 : [oV pr.1, oV pr.2][j2]? = some y3 := e2
          have e3 : [oV qr.1, oV qr.2][j2]? = some z3 := e3
          rw [chV01B] at e1
          rcases (show j2 = 0 ∨ j2 = 1 by omega) with rfl | rfl
          · cases e1
            cases e2
            cases e3
            exact ⟨false, rfl, rfl, rfl, rfl⟩
          · cases e1
            cases e2
            cases e3
            exact ⟨true, rfl, rfl, rfl, rfl⟩
        have hes := edN_snoc W i j ec
        rw [← goi, ← goj]
        have s3 := same_new (o := .tup [V.str ⟨#[sgn c]⟩, oV (goG W i c), oV (goG W j c)]) nT3
        have tl2 : ts.length ≤ 2 := by
          have h1 := Paired.length hts
          have h2 : (edN W i j j2).length ≤ 2 := by
            unfold edN
            refine Nat.le_trans (List.length_filterMap_le _ _) ?_
            rw [List.length_take]
            show min j2 2 ≤ 2
            omega
          omega
        refine ⟨T3, _, rfl, SqT.of upd_same, rfl, _, _, rfl, _, _, rfl, _, _, rfl, rfl, rfl, ?_⟩
        have stay : edC W i j c = none → Same G (upd G5 T3 (.tup [V.str ⟨#[sgn c]⟩, oV (goG W i c), oV (goG W j c)])) ∧ EdAt (upd G5 T3 (.tup [V.str ⟨#[sgn c]⟩, oV (goG W i c), oV (goG W j c)])) D (edN W i j (j2 + 1)) := fun e => by
          rw [hes, e, Option.toList_none, List.append_nil]
          exact ⟨s5.trans s3, (show EdAt G5 D (edN W i j j2) from ⟨ts, hD, hts⟩).same s3⟩
        cases e4 : goG W i c with
        | none =>
          rw [e4] at stay
          exact ⟨_, rfl, rfl, _, rfl, iteF (iteF (stay (by unfold edC; rw [e4]; rfl)))⟩
        | some g =>
          cases e5 : goG W j c with
          | none =>
            rw [e4, e5] at stay
            exact ⟨_, rfl, rfl, _, rfl, iteT ⟨_, rfl, rfl, _, rfl, iteF (iteF (stay (by unfold edC; rw [e4, e5]; rfl)))⟩⟩
          | some h =>
            rw [e4, e5] at stay s3
            refine ⟨_, rfl, rfl, _, rfl, iteT ⟨_, rfl, rfl, _, rfl, iteT ⟨_, rfl, _, rfl, rfl, _, rfl, ?_⟩⟩⟩
            by_cases egh : g = h
            · rw [decide_eq_true (show oV (some g) = oV (some h) by rw [egh])]
              exact iteF (stay (by unfold edC; rw [e4, e5]; exact if_pos egh))
            · rw [decide_eq_false (show ¬ oV (some g) = oV (some h) from fun e => egh (by have := V.int.inj e; omega))]
              have hedc : edC W i j c = some (c, g, h) := by unfold edC; rw [e4, e5]; exact if_neg egh
              refine iteT ⟨_, rfl, _, rfl, _, rfl, by show 2 ≤ sizeLine; decide, fun T4 nT4 => ⟨by show 2 ≤ sizeLine; decide, fun T5 nT5 => ?_⟩⟩
              have s4 := same_new (o := .tup [oV (some g), oV (some h)]) nT4
              have s5' := same_new (o := .tup [.str ⟨#[sgn c]⟩, .ref T4]) nT5
              have sA := (s3.trans s4).trans s5'
              have hDA := sA _ _ hD
              have hT5 : (upd (upd (upd G5 T3 (.tup [V.str ⟨#[sgn c]⟩, oV (some g), oV (some h)])) T4 (.tup [oV (some g), oV (some h)])) T5 (.tup [.str ⟨#[sgn c]⟩, .ref T4])) T5 = some (.tup [.str ⟨#[sgn c]⟩, .ref T4]) := upd_same
              have hT4 : (upd (upd (upd G5 T3 (.tup [V.str ⟨#[sgn c]⟩, oV (some g), oV (some h)])) T4 (.tup [oV (some g), oV (some h)])) T5 (.tup [.str ⟨#[sgn c]⟩, .ref T4])) T4 = some (.tup [.int (g : Nat), .int (h : Nat)]) := s5' _ _ upd_same
              refine ⟨_, hDA, ?_, same_put (s5.trans sA) nD, ts ++ [T5], ?_, ?_⟩
              · rw [List.length_map]
                exact small1000 (by omega)
              · rw [upd_same, List.map_append]
                rfl
              · have kp : ∀ b zs, (upd (upd (upd G5 T3 (.tup [V.str ⟨#[sgn c]⟩, oV (some g), oV (some h)])) T4 (.tup [oV (some g), oV (some h)])) T5 (.tup [.str ⟨#[sgn c]⟩, .ref T4])) b = some (.tup zs) → upd (upd (upd (upd G5 T3 (.tup [V.str ⟨#[sgn c]⟩, oV (some g), oV (some h)])) T4 (.tup [oV (some g), oV (some h)])) T5 (.tup [.str ⟨#[sgn c]⟩, .ref T4])) D (.lst (ts.map V.ref ++ [.ref T5])) b = some (.tup zs) := fun b zs e => by
                  rw [upd_ne (fun z => by rw [z, hDA] at e; cases e)]
                  exact e
                rw [hes, hedc]
                exact Paired.snoc (Paired.mapP hts fun _ _ ⟨u, z1, z2⟩ => ⟨u, kp _ _ (sA _ _ z1), kp _ _ (sA _ _ z2)⟩) ⟨T4, kp _ _ hT5, kp _ _ hT4⟩
      · obtain ⟨s5, hD⟩ := h
        obtain ⟨ls, hd, hls⟩ := hW
        refine ⟨_, rfl, _, rfl, _, rfl, by show 2 ≤ sizeLine; decide, fun T6 nT6 => ?_⟩
        have s6 := same_new (o := .tup [.int (0 + (i : Int)), .int (0 + (j : Int))]) nT6
        have s56 := s5.trans s6
        have hd6 := s56 _ _ hd
        have hT6 : (upd G5 T6 (.tup [.int (0 + (i : Int)), .int (0 + (j : Int))])) T6 = some (.tup ((ky (i, j)).map kV)) := by
          rw [upd_same, Int.zero_add, Int.zero_add]
          rfl
        have hlen := Paired.length hls
        have hle := unN_le W.length i j
        have hmul : W.length * i ≤ 40 * 40 := Nat.mul_le_mul h40 (by omega)
        refine ⟨d, _, rfl, DPut.t hd6 hT6 ?_, ⟨_, rfl⟩, same_put (sG.trans s56) nd, ls ++ [D], ?_, ?_⟩
        · rw [List.length_map, List.length_zip]
          exact smallB (by omega)
        · rw [upd_same, hsn, List.zip_append hlen.symm, List.map_append, putK_new _ (zip_any fun z => ?_)]
          · rfl
          · rcases unN_mem.mp z with ⟨z1, _, _⟩ | ⟨_, z2, _⟩
            · exact absurd z1 (Nat.lt_irrefl _)
            · exact absurd z2 (Nat.lt_irrefl _)
        · have kp : ∀ l es, EdAt (upd G5 T6 (.tup [.int (0 + (i : Int)), .int (0 + (j : Int))])) l es → EdAt (upd (upd G5 T6 (.tup [.int (0 + (i : Int)), .int (0 + (j : Int))])) d (.dT (putK ((List.zip (unN W.length i j) ls).map fun p => (ky p.1, V.ref p.2)) (ky (i, j)) (.ref D)))) l es := fun l es h => h.keep (fun xs e => (upd_ne (fun z => by rw [z, hd6] at e; cases e)).trans e) fun b ys e => (upd_ne (fun z => by rw [z, hd6] at e; cases e)).trans e
          rw [hsn]
          exact Paired.snoc (Paired.mapP hls fun _ _ h => kp _ _ (h.same s56)) (kp _ _ (hD.same s6))
    · obtain ⟨⟨y2, y3, rfl⟩, sG, hW⟩ := h
      exact ⟨_, rfl, q d G sG nd hW⟩
end
end K28

set_option Elab.async false
set_option linter.all false
set_option maxRecDepth 100000
set_option maxHeartbeats 4000000
namespace K28
open PySem PySem.Spec PyProof.Rows L2 Pw TL
section
variable {P : Program} {w : World} {K : PySem.W.Frag} {mg : Str → Option Value} {base : Heap}
open LamX
/-! longest_lengths -/
abbrev sLG : Stmt := topS 19
abbrev nLG : List Str := ["ways","into","unknown","place","label","goal","known","lengths","before"]
theorem scLG : FnScope nLG ["ways"] (defScope sLG) := ⟨rfl, rfl, rfl, by decide +kernel, rfl, by decide +kernel, by decide +kernel⟩
def spLG : Sp := fun vs H Q _ => ∃ (d : Addr) (kvs : List (KL × V)) (U : List KL) (gs : KL → List KL), vs = [.ref d] ∧ H d = some (.dT kvs) ∧ WaysK H d kvs U gs ∧ U.Nodup ∧ U.length ≤ 20000 ∧ (∀ k, k ∈ U → (gs k).length ≤ 2) ∧ (∀ k, k ∈ U → ∀ g, g ∈ gs k → g ∈ U) ∧
  ∀ (dl : Addr) (G : Hp) (kn : List KL) (len : KL → Nat) (un : KL → Nat), Same H G → H dl = none → DcK G dl kn (fun k => .int (len k : Nat)) → Kn U gs kn kn.length un → (∀ k, k ∈ kn → Top gs k (len k)) → Q (.ref dl) G
/-- len, by name -/
def rLenQ (K : PySem.W.Frag) : List V → Hp → VK → Prop := fun xs H Q => ∃ p ys, xs = [V.ref p] ∧ (SqL K H p ys ∨ SqT K H p ys) ∧ Q (.int (ys.length : Nat)) H
theorem pt_truthK {X : Cx} {K : PySem.W.Frag} {a : Expr} {ta : TE} (hK : X.K = K) (ha : PE X a ta) (he : ∀ whole, isTrue a X.env whole = (do let v ← whole; standAt a.pos; holding [v] (truthy v))) : PT X a (fun σ H Q => ta σ H fun x H' => ∃ k, TruV K x H' k ∧ Q k H') := by
  subst hK
  exact pt_truth ha he
theorem ok_lg2 {f : Addr} {fd : FuncData} {k : Nat} (F : Fun K "longest_lengths" "longest_lengths" sLG f fd) (B : BN mg) : FnOk P w K mg base CX0 (k + 1) f fd ["ways"] spLG := by
  refine F.ok scLG (fun vs H Q E h => ?_) (fun cdv A outer s H vs Q E hr h => ?_)
  · obtain ⟨d, _, _, _, rfl, _⟩ := h
    rfl
  · obtain ⟨d, kvs, U, gs, rfl, hd, hw, hU, h20, he2, hgo, q⟩ := h
    have un1 := room1 hr
    have un0 := Nat.lt_of_succ_lt un1
    refine ⟨_, (pss_cons (ps_lock (ps_setDcT (i := 1) (mine := [("place", 3)]) (g := gName 3) (tt := tYes) ⟨rfl, un0, scLG.nd, pi_keys (pv 0), blkOk_by (N := nLG) (sc := defScope sLG) (by decide +kernel), (fun _ _ _ _ _ => pg_name (i := 3) scLG.nd rfl (Or.inl rfl)), (fun _ _ _ _ _ => pts_nil), (fun _ _ _ _ _ => pv 3), (fun _ _ _ _ _ => pe_lst pa_nil), (by intro _; rfl)⟩ rfl rfl (sw_dT rfl rfl rfl (by decide +kernel))))
      (pss_cons (ps_lock (ps_setDcT (i := 2) (mine := [("place", 3)]) (g := gName 3) (tt := tYes) ⟨rfl, un0, scLG.nd, pi_keys (pv 0), blkOk_by (N := nLG) (sc := defScope sLG) (by decide +kernel), (fun _ _ _ _ _ => pg_name (i := 3) scLG.nd rfl (Or.inl rfl)), (fun _ _ _ _ _ => pts_nil), (fun _ _ _ _ _ => pv 3), (fun _ _ _ _ _ => pe_callB (r := rLenQ K) call_len_seq (by rfl) B.len PySem.boot_len (pa_cons (pe_dget un1 (pv 0) (pv 3) (fun _ _ => rfl)) pa_nil)), (by intro _; rfl)⟩ rfl rfl (sw_dT rfl rfl rfl (by decide +kernel))))
      (pss_cons (ps_lock (ps_for PassesOwn.never rfl (pi_keys (pv 0)) (pg_name (i := 3) scLG.nd rfl (.inl rfl))
        (pss_one (ps_for PassesOwn.never rfl (pi_list (pe_dget un1 (pv 0) (pv 3) (fun _ _ => rfl))) (pg_tup rfl (pgs_cons (pg_name (i := 4) scLG.nd rfl (.inl rfl)) (pgs_cons (pg_name (i := 5) scLG.nd rfl (.inl rfl)) pgs_nil)))
          (pss_one (ps_expr (pe_bm PySem.F.plainAttrs_list PySem.F.slot_list_append PySem.F.type_list_append mt_append (pe_dget un1 (pv 1) (pv 5) (fun _ _ => rfl)) (pa_cons (pv 3) pa_nil))))))))
      (pss_cons (ps_lock (ps_setLc (i := 6) (own := [("place", 3)]) (g := gName 3) rfl scLG.nd rfl rfl (sw_true rfl rfl rfl (by decide +kernel)) (pi_keys (pv 0)) (blkOk_by (N := nLG) (sc := defScope sLG) (by decide +kernel)) (fun _ _ _ _ _ => pg_name (i := 3) scLG.nd rfl (Or.inl rfl)) (fun _ _ _ _ _ => pts_one (pt_not (pt_truthK (K := K) rfl (pe_dget un1 (pv 0) (pv 3) (fun _ _ => rfl)) (by intro _; rfl)))) (fun _ _ _ _ _ => pv 3)))
      (pss_cons (ps_set (i := 7) scLG.nd rfl (.inr rfl) pe_dnewT)
      (pss_cons (ps_while PassesOwn.never (pt_cmpR op_lt (pe_callB call_len_dT (by rfl) B.len PySem.boot_len (pa_cons (pv 7) pa_nil)) (pe_callB call_len_seq (by rfl) B.len PySem.boot_len (pa_cons (pv 6) pa_nil)) (nomark _))
        (pss_cons (ps_set (i := 3) scLG.nd rfl (.inl rfl) (pe_ix ix_list (pv 6) (pe_callB call_len_dT (by rfl) B.len PySem.boot_len (pa_cons (pv 7) pa_nil)) (fun _ _ => rfl)))
        (pss_cons (ps_dput un1 (pv 7) (pv 3) (pe_callBK (crk_max rfl hr.units) (by rfl) B.max (by decide +kernel) (pa_cons (pe_lc (own := [("label", 4), ("goal", 5)]) (g := gTup K 2 (gCons (gName 4) (gCons (gName 5) gNil))) (tt := tYes) rfl scLG.nd (pi_list (pe_dget un1 (pv 0) (pv 3) (fun _ _ => rfl))) (blkOk_by (N := nLG) (sc := defScope sLG) (by decide +kernel)) (fun _ _ _ _ _ => pg_tup rfl (pgs_cons (pg_name (i := 4) scLG.nd rfl (Or.inl rfl)) (pgs_cons (pg_name (i := 5) scLG.nd rfl (Or.inl rfl)) pgs_nil))) (fun _ _ _ _ _ => pts_nil) (fun _ _ _ _ _ => pe_op op_add (pe_dget un1 (pv 7) (pv 5) (fun _ _ => rfl)) pe_int)) pa_nil) (pk_cons pe_int pk_nil)) rfl)
        (pss_one (ps_for PassesOwn.never rfl (pi_list (pe_dget un1 (pv 1) (pv 3) (fun _ _ => rfl))) (pg_name (i := 8) scLG.nd rfl (.inl rfl))
          (pss_cons (ps_daug un1 (pv 2) (pv 8) pe_int ip_sub (fun _ _ _ => rfl))
          (pss_one (ps_if (pt_cmpR op_eq (pe_dget un1 (pv 2) (pv 8) (fun _ _ => rfl)) pe_int (nomark _))
            (pss_one (ps_expr (pe_bm PySem.F.plainAttrs_list PySem.F.slot_list_append PySem.F.type_list_append mt_append (pv 6) (pa_cons (pv 8) pa_nil))))
            pss_nil))))))))
      (pss_one (ps_ret (pv 7))))))))), ?_⟩
    have hkU : ∀ {i : Nat} {k : KL} {v : V}, kvs[i]? = some (k, v) → U[i]? = some k := fun {i k v} e => by rw [← hw.1, List.getElem?_map, e]; rfl
    have hln : kvs.length = U.length := by rw [← hw.1, List.length_map]
    refine ⟨d, _, hd, True.intro, fun od => ⟨_, rfl, d, od, rfl, .inr ⟨kvs, upd_same, fun D nD => ?_⟩⟩⟩
    refine dcT_it walk_keysT (fun i G => Same (upd H d (.frz od (.dT kvs))) G ∧ ∃ la : KL → Addr, DcK G D (U.take i) (fun k => .ref (la k)) ∧ ∀ k, k ∈ U.take i → G (la k) = some (.lst []) ∧ upd H d (.frz od (.dT kvs)) (la k) = none ∧ ∀ k', k' ∈ U.take i → la k = la k' → k = k')
      ⟨same_new nD, fun _ => 0, .nil upd_same, fun k h => nomatch h⟩ (fun i G _ h => h.1 _ _ upd_same) (fun i x G G' hi h y => ?_) (fun G h => ?_)
    · obtain ⟨sG, la, hD, hl⟩ := h
      obtain ⟨rfl, kk, v, qa, hk, rfl, hq⟩ := y
      have hk := hkU hk
      have nk := nd_take hU hk
      refine ⟨rfl, ?_⟩
      dsimp only [tYes]
      rw [if_pos rfl]
      refine ⟨_, rfl, by show 0 ≤ sizeLine; decide, fun L nL => ?_⟩
      have s1 := same_new (o := .lst []) nL
      obtain ⟨G6, hp, _, o6, h6, e6⟩ := (hD.same s1).addT nk (s1 _ _ hq) (.ref L) (by rw [List.length_take]; exact smallC (by omega))
      have nDL : L ≠ D := fun z => by
        obtain ⟨_, e, _⟩ := hD
        rw [z, e] at nL
        cases nL
      have ndl : ∀ k, k ∈ U.take i → la k ≠ D ∧ la k ≠ L := fun k hk => by
        have := (hl k hk).1
        refine ⟨fun z => ?_, fun z => by rw [z, nL] at this; cases this⟩
        obtain ⟨_, e, _⟩ := hD
        rw [z, e] at this
        cases this
      refine ⟨G6, hp, fun b o e => ?_, fun j => if j = kk then L else la j, ?_, fun j hj => ?_⟩
      · rw [e6 b fun z => by rw [z, nD] at e; cases e]
        exact s1 _ _ (sG _ _ e)
      · rw [take_one hk]
        exact h6.ext fun j _ => by
          show (if j = kk then V.ref L else V.ref (la j)) = V.ref (if j = kk then L else la j)
          split <;> rfl
      · rw [take_one hk] at hj
        show G6 (if j = kk then L else la j) = _ ∧ upd H d _ (if j = kk then L else la j) = none ∧ ∀ k', k' ∈ U.take (i + 1) → (if j = kk then L else la j) = (if k' = kk then L else la k') → j = k'
        by_cases e : j = kk
        · subst e
          rw [if_pos rfl]
          refine ⟨by rw [e6 _ nDL, upd_same], none_back sG nL, fun k' hk' e => ?_⟩
          by_cases e2 : k' = j
          · exact e2.symm
          · rw [if_neg e2] at e
            rw [take_one hk] at hk'
            rcases List.mem_append.mp hk' with z | z
            · exact absurd e.symm (ndl k' z).2
            · exact absurd (List.mem_singleton.mp z) e2
        · rw [if_neg e]
          have hj2 : j ∈ U.take i := (List.mem_append.mp hj).elim id fun z => absurd (List.mem_singleton.mp z) e
          obtain ⟨a1, a2, a3⟩ := hl j hj2
          refine ⟨by rw [e6 _ (ndl j hj2).1]; exact s1 _ _ a1, a2, fun k' hk' e3 => ?_⟩
          by_cases e2 : k' = kk
          · rw [if_pos e2] at e3
            exact absurd e3 (ndl j hj2).2
          · rw [if_neg e2] at e3
            rw [take_one hk] at hk'
            rcases List.mem_append.mp hk' with z | z
            · exact a3 k' z e3
            · exact absurd (List.mem_singleton.mp z) e2
    obtain ⟨sG, la, hD, hl⟩ := h
    refine ⟨sG _ _ upd_same, ?_⟩
    rw [hln, List.take_length] at hD hl
    have nt1 : ∀ ys, G d ≠ some (.tup ys) := fun ys e => by rw [sG _ _ upd_same] at e; cases e
    have nf1 : ∀ {a : Addr}, upd H d (.frz od (.dT kvs)) a = none → a ≠ d ∧ H a = none := fun {a} e => by
      have hne : a ≠ d := fun z => by rw [z, upd_same] at e; cases e
      exact ⟨hne, by rw [upd_ne hne] at e; exact e⟩
    have s1 : Same H (upd G d (.dT kvs)) := unlock hd sG
    have I1 : IntoK H (upd G d (.dT kvs)) D U la (fun _ => []) := by
      refine ⟨hD.keep off_upd (nf1 nD).1, fun k hk => ?_, fun k hk => (nf1 (hl k hk).2.1).2, (nf1 nD).2, fun k hk k' hk' e => (hl k hk).2.2 k' hk' e⟩
      refine LsK.keep (G := G) ⟨[], (hl k hk).1, .nil⟩ off_upd (nf1 (hl k hk).2.1).1 nt1
    clear sG hD hl nt1
    generalize upd G d (.dT kvs) = G1 at s1 I1
    clear G nf1
    have hd1 := s1 _ _ hd
    have lad : ∀ k, k ∈ U → la k ≠ d := fun k hk z => by
      have := I1.nw k hk
      rw [z, hd] at this
      cases this
    have Dd : D ≠ d := fun z => by
      have := I1.nd
      rw [z, hd] at this
      cases this
    have ntd : ∀ ys, G1 d ≠ some (.tup ys) := fun ys e => by rw [hd1] at e; cases e
    refine ⟨d, _, hd1, True.intro, fun od2 => ⟨_, rfl, d, od2, rfl, .inr ⟨kvs, upd_same, fun D2 nD2 => ?_⟩⟩⟩
    have wl : WaysK (upd G1 d (.frz od2 (.dT kvs))) d kvs U gs := (hw.same s1).keep off_upd ntd
    refine dcT_it walk_keysT (fun i G => Same (upd G1 d (.frz od2 (.dT kvs))) G ∧ DcK G D2 (U.take i) (fun k => .int ((gs k).length : Nat)))
      ⟨same_new nD2, .nil upd_same⟩ (fun i G _ h => h.1 _ _ upd_same) (fun i x G G' hi h y => ?_) (fun G h => ?_)
    · obtain ⟨sG, hD⟩ := h
      obtain ⟨rfl, kk, v, qa, hk, rfl, hq⟩ := y
      have hk := hkU hk
      have nk := nd_take hU hk
      obtain ⟨l, hl1, hl2, ts, hl3, hl4⟩ := (wl.same sG).2 kk (List.mem_of_getElem? hk)
      refine ⟨rfl, ?_⟩
      dsimp only [tYes]
      rw [if_pos rfl]
      refine ⟨_, rfl, _, rfl, _, rfl, d, _, rfl, DcK.rd (.inr ⟨od2, sG _ _ upd_same⟩) hl1 hq, l, _, rfl, .inl (SqL.of hl3), ?_⟩
      obtain ⟨G6, hp, _, o6, h6, e6⟩ := hD.addT nk hq (.int ((ts.map V.ref).length : Nat)) (by rw [List.length_take]; exact smallC (by omega))
      refine ⟨G6, hp, fun b o e => ?_, ?_⟩
      · rw [e6 b fun z => by rw [z, nD2] at e; cases e]
        exact sG _ _ e
      · rw [take_one hk]
        refine h6.ext fun j _ => ?_
        show (if j = kk then V.int _ else _) = V.int _
        split
        · next e => rw [e, List.length_map, Paired.length hl4]
        · rfl
    obtain ⟨sG, hD2⟩ := h
    refine ⟨sG _ _ upd_same, ?_⟩
    rw [hln, List.take_length] at hD2
    have n2 : D2 ≠ d ∧ G1 D2 = none := by
      have hne : D2 ≠ d := fun z => by rw [z, upd_same] at nD2; cases nD2
      exact ⟨hne, by rw [upd_ne hne] at nD2; exact nD2⟩
    have s12 : Same G1 (upd G d (.dT kvs)) := unlock hd1 sG
    have I2 := I1.same s12
    have U2 : DcK (upd G d (.dT kvs)) D2 U (fun k => .int ((gs k).length : Nat)) := hD2.keep off_upd n2.1
    have s2 := s1.trans s12
    have nH2 : H D2 = none := none_back s1 n2.2
    have n21 : D2 ≠ D := fun z => by
      obtain ⟨_, e, _⟩ := I1.dc
      rw [← z, n2.2] at e
      cases e
    clear sG hD2 wl nD2
    generalize upd G d (.dT kvs) = G2 at s12 I2 U2 s2
    clear G I1 s12 ntd hd1
    have hd2 := s2 _ _ hd
    have c5 : ∀ {a b : Addr} {G : Hp} {kk : List (KL × V)} {xs : List V}, G a = some (.dT kk) → G b = some (.lst xs) → a ≠ b := fun {a b G kk xs} e1 e2 z => by rw [z, e2] at e1; cases e1
    have ntf : ∀ {G : Hp} {o : Obj}, G d = some (.frz o (.dT kvs)) → ∀ ys, G d ≠ some (.tup ys) := fun {G o} e ys z => by rw [e] at z; cases z
    have ntd2 : ∀ ys, G2 d ≠ some (.tup ys) := fun ys e => by rw [hd2] at e; cases e
    have laD2 : ∀ k, k ∈ U → la k ≠ D2 := fun k hk z => by
      obtain ⟨xs, e, _⟩ := (I2.ls k hk)
      obtain ⟨_, e2, _⟩ := U2
      rw [z, e2] at e
      cases e
    refine ⟨d, _, hd2, True.intro, fun od3 => ⟨_, rfl, d, od3, rfl, .inr ⟨kvs, upd_same, ?_⟩⟩⟩
    refine for_it walk_keysT (fun i σ G => (∃ y3 y4 y5 : Option V, σ = [some (.ref d), some (.ref D), some (.ref D2), y3, y4, y5, none, none, none]) ∧ OffX d H G ∧ G d = some (.frz od3 (.dT kvs)) ∧ IntoK H G D U la (intoP U gs i 0) ∧ DcK G D2 U (fun k => .int ((gs k).length : Nat)))
      ⟨⟨none, none, none, rfl⟩, (off_same s2).trans off_upd, upd_same, (I2.keep off_upd Dd lad ntd2).ext fun k _ => (intoP_start k).symm, U2.keep off_upd n2.1⟩ (fun i σ G _ h => h.2.2.1) (fun i x σ G G' hi h y => ?_) (fun σ G h => ?_)
    · obtain ⟨⟨y3, y4, y5, rfl⟩, oG, fG, IG, UG⟩ := h
      obtain ⟨rfl, kk, v, qa, hk, rfl, hq⟩ := y
      have hk := hkU hk
      obtain ⟨l, hl1, hl2, ts, hl3, hl4⟩ := hw.2 kk (List.mem_of_getElem? hk)
      have lla : ∀ k, k ∈ U → la k ≠ l := fun k hk' z => by
        have := I2.nw k hk'
        rw [z, hl3] at this
        cases this
      refine ⟨_, rfl, _, rfl, d, _, rfl, DcK.rd (.inr ⟨od3, fG⟩) hl1 hq, l, rfl, ⟨_, SqL.of (oG _ _ hl3 hl2)⟩, ?_⟩
      refine for_it (walk_list (K := K) (a := l) (xs := ts.map V.ref)) (fun j σ G => (∃ y4 y5 : Option V, σ = [some (.ref d), some (.ref D), some (.ref D2), some (.ref qa), y4, y5, none, none, none]) ∧ OffX d H G ∧ G d = some (.frz od3 (.dT kvs)) ∧ G qa = some (.tup (kk.map kV)) ∧ IntoK H G D U la (intoP U gs i j) ∧ DcK G D2 U (fun k => .int ((gs k).length : Nat)))
        ⟨⟨_, _, rfl⟩, oG, fG, hq, IG, UG⟩ (fun j σ G _ h => ?_) (fun j x σ G G' hj h y => ?_) (fun σ G h => ?_)
      · exact SqL.of (h.2.1 _ _ hl3 hl2)
      · obtain ⟨⟨y4, y5, rfl⟩, oG, fG, hq, IG, UG⟩ := h
        obtain ⟨rfl, hx⟩ := y
        obtain ⟨t, et, rfl⟩ : ∃ t, ts[j]? = some t ∧ V.ref t = x := by
          rw [List.getElem?_map] at hx
          exact Option.map_eq_some_iff.mp hx
        have hjl : j < (gs kk).length := by
          rw [List.length_map, Paired.length hl4] at hj
          exact hj
        have eg : (gs kk)[j]? = some (gs kk)[j] := List.getElem?_eq_getElem hjl
        generalize (gs kk)[j] = gg at eg
        obtain ⟨lb, u, ht, hu⟩ : ∃ x u, G' t = some (.tup [x, .ref u]) ∧ G' u = some (.tup (gg.map kV)) := by
          obtain ⟨x, u, a1, a2⟩ := paired_get hl4 et eg
          exact ⟨x, u, oG.tup (fun ys e => by rw [hd] at e; cases e) a1, oG.tup (fun ys e => by rw [hd] at e; cases e) a2⟩
        have hgU : gg ∈ U := hgo kk (List.mem_of_getElem? hk) gg (List.mem_of_getElem? eg)
        refine ⟨t, _, rfl, SqT.of ht, rfl, _, _, rfl, _, _, rfl, rfl, ?_⟩
        obtain ⟨xs, a1, a2, a3⟩ := IG.snoc hgU hq
        have ne1 : la gg ≠ d := lad gg hgU
        have nx1 : ∀ ys, G' (la gg) ≠ some (.tup ys) := fun ys e => by rw [a1] at e; cases e
        refine ⟨_, rfl, _, rfl, D, _, rfl, IG.dc.get hgU hu, .inl ⟨rfl, _, SqL.of a1⟩, _, rfl, la gg, _, _, rfl, rfl, a1, ?_, ⟨_, _, rfl⟩, fun b o e n => ?_, ?_, off_upd.tup nx1 hq, ?_, UG.keep off_upd fun z => laD2 gg hgU z.symm⟩
        · rw [a2]
          have := intoP_le (i := i) (j := j) (g := gg) he2
          exact smallC (by omega)
        · rw [upd_ne fun z => by have := I2.nw gg hgU; rw [← z, e] at this; cases this]
          exact oG b o e n
        · rw [upd_ne fun z => ne1 z.symm]
          exact fG
        · refine a3.ext fun g _ => ?_
          rw [intoP_next hk eg]
      · obtain ⟨⟨y4, y5, rfl⟩, oG, fG, hq, IG, UG⟩ := h
        rw [List.length_map, Paired.length hl4] at IG
        exact ⟨⟨_, _, _, rfl⟩, oG, fG, IG.ext fun g _ => intoP_row hk g, UG⟩
    obtain ⟨⟨y3, y4, y5, rfl⟩, oG, fG, IG, UG⟩ := h
    refine ⟨fG, ?_⟩
    rw [hln] at IG
    have s3 : Same H (upd G d (.dT kvs)) := fun b o e => by
      by_cases z : b = d
      · rw [z, upd_same, ← hd, ← z, e]
      · rw [upd_ne z]
        exact oG b o e z
    have I3 : IntoK H (upd G d (.dT kvs)) D U la (intoN U gs) := (IG.keep off_upd Dd lad (ntf fG)).ext fun k _ => intoP_end k
    have U3 := UG.keep (off_upd (x := d) (o := .dT kvs)) n2.1
    clear oG fG IG UG I2 U2 ntd2
    generalize upd G d (.dT kvs) = G3 at s3 I3 U3
    clear G
    have hd3 := s3 _ _ hd
    have ntd3 : ∀ ys, G3 d ≠ some (.tup ys) := fun ys e => by rw [hd3] at e; cases e
    refine ⟨d, _, hd3, True.intro, fun od4 => ⟨_, rfl, d, od4, rfl, .inr ⟨kvs, upd_same, fun Dk nDk => ?_⟩⟩⟩
    refine lc_it walk_keysT (fun i G => Same (upd G3 d (.frz od4 (.dT kvs))) G ∧ LsK G Dk ((U.take i).filter fun p => (gs p).isEmpty))
      ⟨same_new nDk, [], upd_same, .nil⟩ (fun i G _ h => h.1 _ _ upd_same) (fun i x G G' hi h y => ?_) (fun G h => ?_)
    · obtain ⟨sG, hK⟩ := h
      obtain ⟨rfl, kk, v, qa, hk, rfl, hq⟩ := y
      have hk := hkU hk
      obtain ⟨l, hl1, hl2, ts, hl3, hl4⟩ := hw.2 kk (List.mem_of_getElem? hk)
      have hl5 := sG l _ ((upd_ne hl2).trans (s3 _ _ hl3))
      refine ⟨rfl, _, rfl, _, rfl, d, _, rfl, DcK.rd (.inr ⟨od4, sG _ _ upd_same⟩) hl1 hq, _, .inl ⟨_, SqL.of hl5, rfl⟩, ?_⟩
      rw [take_one hk, List.filter_append]
      have e0 : (ts.map V.ref).isEmpty = (gs kk).isEmpty := by
        have := Paired.length hl4
        cases ts <;> cases hgk : gs kk <;> simp_all
      rw [e0]
      cases hb : (gs kk).isEmpty with
      | false =>
        refine iteF ⟨sG, ?_⟩
        rw [List.filter_cons, if_neg (by rw [hb]; decide), List.filter_nil, List.append_nil]
        exact hK
      | true =>
        obtain ⟨xs, a1, a2, a3⟩ := hK.snoc hq
        refine iteT ⟨_, rfl, xs, a1, ?_, same_put sG nDk, ?_⟩
        · rw [a2]
          have := List.length_filter_le (fun p => (gs p).isEmpty) (U.take i)
          rw [List.length_take] at this
          exact smallC (by omega)
        · rw [List.filter_cons, if_pos hb, List.filter_nil]
          exact a3
    obtain ⟨sG, hK⟩ := h
    refine ⟨sG _ _ upd_same, ?_⟩
    rw [hln, List.take_length] at hK
    have n4 : Dk ≠ d ∧ G3 Dk = none := by
      have hne : Dk ≠ d := fun z => by rw [z, upd_same] at nDk; cases nDk
      exact ⟨hne, by rw [upd_ne hne] at nDk; exact nDk⟩
    have s34 : Same G3 (upd G d (.dT kvs)) := unlock hd3 sG
    have I4 := I3.same s34
    have U4 := U3.same s34
    have K4 : LsK (upd G d (.dT kvs)) Dk (U.filter fun p => (gs p).isEmpty) := hK.keep off_upd n4.1 fun ys e => by rw [sG _ _ upd_same] at e; cases e
    have s4 := s3.trans s34
    have nH4 : H Dk = none := none_back s3 n4.2
    have laDk : ∀ k, k ∈ U → la k ≠ Dk := fun k hk z => by
      obtain ⟨xs, e, _⟩ := I3.ls k hk
      rw [z, n4.2] at e
      cases e
    clear sG hK s34 nDk I3 U3 ntd3 hd3 s3 n4
    generalize upd G d (.dT kvs) = G4 at I4 U4 K4 s4
    clear G G3
    intro Dl nDl
    have s5 : Same H (upd G4 Dl (.dT [])) := s4.trans (same_new nDl)
    have I5 := I4.same (same_new (o := .dT []) nDl)
    have U5 := U4.same (same_new (o := .dT []) nDl)
    have K5 := K4.same (same_new (o := .dT []) nDl)
    have nH5 : H Dl = none := none_back s4 nDl
    have DDl : D ≠ Dl := fun z => by
      obtain ⟨_, e, _⟩ := I4.dc
      rw [z, nDl] at e
      cases e
    have D2Dl : D2 ≠ Dl := fun z => by
      obtain ⟨_, e, _⟩ := U4
      rw [z, nDl] at e
      cases e
    have L5 : DcK (upd G4 Dl (.dT [])) Dl [] (fun k => .int ((0 : Nat) : Int)) := .nil upd_same
    clear I4 U4 K4 s4
    generalize upd G4 Dl (.dT []) = G5 at s5 I5 U5 K5 L5
    clear nDl
    refine ⟨fun m σ G => ∃ (t : Nat) (kn : List KL) (un len : KL → Nat) (y3 y4 y5 y8 : Option V), σ = [some (.ref d), some (.ref D), some (.ref D2), y3, y4, y5, some (.ref Dk), some (.ref Dl), y8] ∧ Same H G ∧ IntoK H G D U la (intoN U gs) ∧ DcK G D2 U (fun k => .int (un k : Nat)) ∧ LsK G Dk kn ∧ DcK G Dl (kn.take t) (fun k => .int (len k : Nat)) ∧ Kn U gs kn t un ∧ (∀ k, k ∈ kn.take t → Top gs k (len k)) ∧ m + t = U.length,
      ⟨U.length, 0, _, fun q => (gs q).length, fun _ => 0, _, _, _, _, rfl, s5, I5, U5, K5, L5, Kn.start hU, (fun k h => nomatch h), rfl⟩, ?_⟩
    rintro m σ G ⟨t, kn, un, len, y3, y4, y5, y8, rfl, sG, IG, UG, KG, LG, hKn, hTop, hm⟩
    have hkl : kn.length ≤ U.length := nd_le _ _ hKn.nd fun x hx => ((hKn.mem x).mp hx).1
    have htl := hKn.tl
    have htk : (kn.take t).length = t := by rw [List.length_take]; omega
    obtain ⟨kl, hkl1, hkl2⟩ := LG.len
    obtain ⟨qs, hqs1, hqs2⟩ := KG.len
    refine ⟨_, rfl, Dl, kl, rfl, hkl1, _, rfl, Dk, _, rfl, .inl (SqL.of hqs1), _, _, rfl, rfl, _, rfl, ?_⟩
    rw [hkl2, htk, hqs2]
    by_cases ht : t < kn.length
    · rw [decide_eq_true (show ((t : Nat) : Int) < ((kn.length : Nat) : Int) by omega)]
      have eg : kn[t]? = some kn[t] := List.getElem?_eq_getElem ht
      generalize kn[t] = g at eg
      obtain ⟨gU, gz⟩ := (hKn.mem g).mp (List.mem_of_getElem? eg)
      have nk := hKn.fresh eg
      have tops := hKn.top eg
      have tkS : kn.take (t + 1) = kn.take t ++ [g] := take_one eg
      obtain ⟨qs', hK1, hK2⟩ := id KG
      have e2 : qs.map V.ref = qs'.map V.ref := HO.lst.inj (Option.some.inj (hqs1.symm.trans hK1))
      obtain ⟨q0, eq0⟩ : ∃ q0, qs'[t]? = some q0 := ⟨_, List.getElem?_eq_getElem (by have := Paired.length hK2; omega)⟩
      have hq0 := paired_get hK2 eq0 eg
      refine iteT ⟨fun σ G => ∃ (kn : List KL) (un len : KL → Nat) (y3 y4 y5 y8 : Option V), σ = [some (.ref d), some (.ref D), some (.ref D2), y3, y4, y5, some (.ref Dk), some (.ref Dl), y8] ∧ Same H G ∧ IntoK H G D U la (intoN U gs) ∧ DcK G D2 U (fun k => .int (un k : Nat)) ∧ LsK G Dk kn ∧ DcK G Dl (kn.take (t + 1)) (fun k => .int (len k : Nat)) ∧ Kn U gs kn (t + 1) un ∧ (∀ k, k ∈ kn.take (t + 1) → Top gs k (len k)), ?_, ?_⟩
      · rintro σ' G' ⟨kn, un, len, y3, y4, y5, y8, rfl, a1, a2, a3, a4, a5, a6, a7⟩
        exact ⟨m - 1, by omega, t + 1, kn, un, len, _, _, _, _, rfl, a1, a2, a3, a4, a5, a6, a7, by omega⟩
      refine ⟨_, rfl, _, rfl, Dl, kl, rfl, hkl1, Dk, _, _, .ref q0, rfl, rfl, SqL.of hqs1, ?_, ?_⟩
      · rw [hkl2, htk, e2]
        exact atI_nat (by rw [List.getElem?_map, eq0]; rfl)
      obtain ⟨l, hl1, hl2, ts, hl3, hl4⟩ := hw.2 g gU
      refine ⟨_, rfl, _, rfl, d, _, rfl, DcK.rd (.inl (sG _ _ hd)) hl1 hq0, l, rfl, ⟨_, SqL.of (sG _ _ hl3)⟩, fun A1 nA1 => ?_⟩
      refine lc_it (walk_list (K := K) (a := l) (xs := ts.map V.ref)) (fun i G' => Same G G' ∧ G' A1 = some (.lst (((gs g).take i).map fun h => V.int ((len h + 1 : Nat) : Int)))) ⟨same_new nA1, upd_same⟩ (fun i G' _ h => SqL.of (h.1 _ _ (sG _ _ hl3))) (fun i x G' G'' hi h y => ?_) (fun G' h => ?_)
      · obtain ⟨sg, hA⟩ := h
        obtain ⟨rfl, hx⟩ := y
        obtain ⟨t0, et, rfl⟩ : ∃ t0, ts[i]? = some t0 ∧ V.ref t0 = x := by
          rw [List.getElem?_map] at hx
          exact Option.map_eq_some_iff.mp hx
        have hjl : i < (gs g).length := by
          rw [List.length_map, Paired.length hl4] at hi
          exact hi
        have egg : (gs g)[i]? = some (gs g)[i] := List.getElem?_eq_getElem hjl
        generalize (gs g)[i] = gg at egg
        obtain ⟨x, u, a1, a2⟩ := paired_get hl4 et egg
        have hgt := tops gg (List.mem_of_getElem? egg)
        refine ⟨t0, _, rfl, SqT.of (sg _ _ (sG _ _ a1)), rfl, _, _, rfl, _, _, rfl, rfl, rfl, ?_⟩
        dsimp only [tYes]
        rw [if_pos rfl]
        refine ⟨_, rfl, _, rfl, Dl, _, rfl, (LG.same sg).get hgt (sg _ _ (sG _ _ a2)), _, _, rfl, rfl, _, hA, ?_, same_put sg nA1, ?_⟩
        · rw [List.length_map, List.length_take]
          have := he2 g gU
          exact smallC (by omega)
        · rw [upd_same, take_one egg, List.map_append]
          rfl
      obtain ⟨sg, hA⟩ := h
      rw [List.length_map, Paired.length hl4, List.take_length] at hA
      have eA : (gs g).map (fun h => V.int ((len h + 1 : Nat) : Int)) = ((gs g).map fun h => ((len h + 1 : Nat) : Int)).map V.int := by
        rw [List.map_map]
        rfl
      rw [eA] at hA
      have sG1 := sG.trans sg
      have IG1 := IG.same sg
      have UG1 := UG.same sg
      have KG1 := KG.same sg
      have LG1 := LG.same sg
      have hq1 := sg _ _ hq0
      clear IG UG KG LG nA1
      refine ⟨A1, _, 0, rfl, rfl, SqL.of hA, And.symm (max_both fun mm hmm => ?_)⟩
      obtain ⟨M, rfl, hM⟩ : ∃ M : Nat, mm = (M : Nat) ∧ Top gs g M := by
        have hl : ∀ x, x ∈ gs g → Top gs x (len x) := fun x hx => hTop x (tops x hx)
        rcases hmm with ⟨e, rfl⟩ | ⟨h1, h2⟩
        · have e : gs g = [] := List.map_eq_nil_iff.mp e
          exact ⟨0, rfl, top_none e⟩
        · obtain ⟨x, hx, rfl⟩ := List.mem_map.mp h1
          refine ⟨_, rfl, top_max hl (fun y hy => ?_) (.inr ⟨x, hx, rfl⟩)⟩
          have := h2 _ (List.mem_map.mpr ⟨y, hy, rfl⟩)
          omega
      obtain ⟨G6, _, hput, o6, L6, e6⟩ := LG1.addT nk hq1 (.int ((M : Nat) : Int)) (by rw [htk]; exact smallC (by omega))
      have tD : ∀ ys, G' Dl ≠ some (.tup ys) := fun ys e => by
        obtain ⟨_, e2, _⟩ := LG1
        rw [e2] at e
        cases e
      have laDl : ∀ k, k ∈ U → la k ≠ Dl := fun k hk z => by
        obtain ⟨_, e2, _⟩ := LG1
        obtain ⟨_, e3, _⟩ := IG1.ls k hk
        rw [z, e2] at e3
        cases e3
      have DkDl : Dk ≠ Dl := fun z => by
        obtain ⟨_, e2, _⟩ := LG1
        obtain ⟨_, e3, _⟩ := KG1
        rw [z, e2] at e3
        cases e3
      have s6 : Same H G6 := fun b o e => by
        rw [e6 b fun z => by rw [z, nH5] at e; cases e]
        exact sG1 _ _ e
      have I6 := IG1.keep o6 DDl laDl tD
      have U6 := UG1.keep o6 D2Dl
      have K6 := KG1.keep o6 DkDl tD
      have q6 := o6.tup tD hq1
      refine ⟨_, rfl, _, rfl, Dl, G6, rfl, hput, ?_⟩
      rw [← tkS] at L6
      have hTop' : ∀ k, k ∈ kn.take (t + 1) → Top gs k (if k = g then M else len k) := fun k hk => by
        by_cases e : k = g
        · rw [if_pos e, e]
          exact hM
        · rw [if_neg e]
          rw [tkS] at hk
          exact hTop k ((List.mem_append.mp hk).elim id fun z => absurd (List.mem_singleton.mp z) e)
      have L6 := L6.ext (g := fun k => .int ((if k = g then M else len k : Nat) : Int)) fun k _ => by
        show (if k = g then V.int _ else V.int _) = V.int _
        split <;> rfl
      obtain ⟨len', L6, hTop'⟩ : ∃ len' : KL → Nat, DcK G6 Dl (kn.take (t + 1)) (fun k => .int (len' k : Nat)) ∧ ∀ k, k ∈ kn.take (t + 1) → Top gs k (len' k) := ⟨fun k => if k = g then M else len k, L6, hTop'⟩
      have KN0 := hKn.into hU eg
      obtain ⟨bs, hb1, hb2⟩ := I6.ls g gU
      have hbl : bs.length = (intoN U gs g).length := Paired.length hb2
      refine ⟨_, rfl, _, rfl, D, _, rfl, I6.dc.get gU q6, la g, rfl, ⟨_, SqL.of hb1⟩, ?_⟩
      refine for_it (walk_list (K := K) (a := la g) (xs := bs.map V.ref)) (fun i σ G => ∃ (kn' : List KL) (un' : KL → Nat) (y8 : Option V), σ = [some (.ref d), some (.ref D), some (.ref D2), some (.ref q0), y4, y5, some (.ref Dk), some (.ref Dl), y8] ∧ Same H G ∧ G (la g) = some (.lst (bs.map V.ref)) ∧ Paired (fun q (k : KL) => G q = some (.tup (k.map kV))) bs (intoN U gs g) ∧ IntoK H G D U la (intoN U gs) ∧ DcK G D2 U (fun k => .int (un' k : Nat)) ∧ LsK G Dk kn' ∧ DcK G Dl (kn'.take (t + 1)) (fun k => .int (len' k : Nat)) ∧ kn'.take (t + 1) = kn.take (t + 1) ∧ KnI U gs kn' t un' g i)
        ⟨kn, un, _, rfl, s6, hb1, hb2, I6, U6, K6, L6, rfl, KN0⟩ (fun i σ G _ ⟨_, _, _, _, _, h, _⟩ => SqL.of h) (fun i x σ G G' hi h y => ?_) (fun σ G h => ?_)
      · obtain ⟨kn', un', y8, rfl, sG, hb1, hb2, IG, UG, KG, LG, hkk, hKI⟩ := h
        obtain ⟨rfl, hx⟩ := y
        obtain ⟨b, eb, rfl⟩ : ∃ b, bs[i]? = some b ∧ V.ref b = x := by
          rw [List.getElem?_map] at hx
          exact Option.map_eq_some_iff.mp hx
        have hil : i < (intoN U gs g).length := by rw [← hbl]; exact (List.getElem?_eq_some_iff.mp eb).1
        have ebb : (intoN U gs g)[i]? = some (intoN U gs g)[i] := List.getElem?_eq_getElem hil
        generalize (intoN U gs g)[i] = bb at ebb
        have hbq := paired_get hb2 eb ebb
        obtain ⟨bU, bp⟩ := hKI.pos ebb
        have hst := hKI.step ebb
        have tU : ∀ ys, G' D2 ≠ some (.tup ys) := fun ys e => by
          obtain ⟨_, e2, _⟩ := UG
          rw [e2] at e
          cases e
        have DkD2 : Dk ≠ D2 := fun z => by
          obtain ⟨_, e2, _⟩ := UG
          obtain ⟨_, e3, _⟩ := KG
          rw [z, e2] at e3
          cases e3
        obtain ⟨G7, hput, o7, U7, e7⟩ := UG.put bU hbq (.int ((un' bb : Nat) - 1 : Int)) (smallC (by omega))
        have U7 := U7.ext (g := fun k => .int ((if k = bb then un' bb - 1 else un' k : Nat) : Int)) fun k _ => by
          show (if k = bb then V.int _ else V.int _) = V.int _
          split
          · congr 1
            omega
          · rfl
        have s7 : Same H G7 := fun c o e => by
          rw [e7 c fun z => by rw [z, nH2] at e; cases e]
          exact sG _ _ e
        have I7 := IG.keep o7 (fun z => n21 z.symm) laD2 tU
        have K7 := KG.keep o7 DkD2 tU
        have L7 := LG.keep o7 fun z => D2Dl z.symm
        have hb17 := o7 _ _ hb1 (laD2 g gU)
        have hb27 := Paired.mapP hb2 fun _ _ e => o7.tup tU e
        have q7 := o7.tup tU hbq
        refine ⟨_, rfl, _, rfl, D2, _, rfl, UG.get bU hbq, _, _, rfl, rfl, G7, hput, ?_⟩
        refine ⟨_, rfl, _, rfl, D2, _, rfl, U7.get bU q7, rfl, _, rfl, ?_⟩
        rw [if_pos rfl]
        by_cases c : un' bb - 1 = 0
        · rw [if_pos c] at hst
          rw [decide_eq_true (show V.int ((un' bb - 1 : Nat) : Int) = V.int 0 by rw [c]; rfl)]
          obtain ⟨xs, a1, a2, a3⟩ := K7.snoc q7
          have tK : ∀ ys, G7 Dk ≠ some (.tup ys) := fun ys e => by rw [a1] at e; cases e
          have hkl' : kn'.length ≤ U.length := nd_le _ _ hKI.nd fun x hx => ((hKI.mem x).mp hx).1
          have htk' : (kn' ++ [bb]).take (t + 1) = kn'.take (t + 1) := List.take_append_of_le_length (List.getElem?_eq_some_iff.mp hKI.at_).1
          have DlDk : Dl ≠ Dk := fun z => by
            obtain ⟨_, e2, _⟩ := L7
            rw [z, a1] at e2
            cases e2
          have D2Dk : D2 ≠ Dk := fun z => by
            obtain ⟨_, e2, _⟩ := U7
            rw [z, a1] at e2
            cases e2
          have DDk : D ≠ Dk := fun z => by
            obtain ⟨_, e2, _⟩ := I7.dc
            rw [z, a1] at e2
            cases e2
          refine iteT ⟨_, rfl, .inl ⟨rfl, _, SqL.of a1⟩, _, rfl, Dk, _, _, rfl, rfl, a1, by rw [a2]; exact smallC (by omega), kn' ++ [bb], _, _, rfl, same_put s7 nH4, off_upd _ _ hb17 (laDk g gU), Paired.mapP hb27 fun _ _ e => off_upd.tup tK e, I7.keep off_upd DDk laDk tK, U7.keep off_upd D2Dk, a3, ?_, htk'.trans hkk, hst⟩
          rw [htk']
          exact L7.keep off_upd DlDk
        · rw [if_neg c] at hst
          rw [decide_eq_false (show ¬ V.int ((un' bb - 1 : Nat) : Int) = V.int 0 from fun e => c (by have := V.int.inj e; omega))]
          exact iteF ⟨kn', _, _, rfl, s7, hb17, hb27, I7, U7, K7, L7, hkk, hst⟩
      · obtain ⟨kn', un', y8, rfl, sG, hb1, hb2, IG, UG, KG, LG, hkk, hKI⟩ := h
        rw [List.length_map, hbl] at hKI
        exact ⟨kn', un', len', _, _, _, _, rfl, sG, IG, UG, KG, LG, hKI.done, fun k hk => hTop' k (by rw [← hkk]; exact hk)⟩
    · rw [decide_eq_false (show ¬ ((t : Nat) : Int) < ((kn.length : Nat) : Int) by omega)]
      obtain rfl : t = kn.length := by omega
      rw [List.take_length] at LG hTop
      exact iteF ⟨_, rfl, q Dl G kn len un sG nH5 LG hKn hTop⟩
end
end K28

set_option Elab.async false
set_option linter.all false
set_option maxRecDepth 100000
set_option maxHeartbeats 4000000
namespace K28
open PySem PySem.Spec PyProof.Rows L2 Pw TL
section
variable {P : Program} {w : World} {K : PySem.W.Frag} {mg : Str → Option Value} {base : Heap}
open LamX
/-! longest, least_beyond -/
abbrev sLO : Stmt := topS 20
abbrev nLO : List Str := ["ways","lengths"]
theorem scLO : FnScope nLO ["ways"] (defScope sLO) := ⟨rfl, rfl, rfl, by decide +kernel, rfl, by decide +kernel, by decide +kernel⟩
theorem vals_of {f : KL → V} : ∀ {kvs : List (KL × V)}, (kvs.map (·.1)).Nodup → (∀ k, k ∈ kvs.map (·.1) → valV kvs k = some (f k)) → kvs.map (·.2) = (kvs.map (·.1)).map f
  | [], _, _ => rfl
  | p :: r, nd, h => by
    have n2 := List.nodup_cons.mp nd
    have h1 := h p.1 (List.mem_cons_self ..)
    rw [valV_pos rfl] at h1
    show p.2 :: r.map (·.2) = f p.1 :: (r.map (·.1)).map f
    rw [Option.some.inj h1, vals_of n2.2 fun k hk => ?_]
    have h2 := h k (List.mem_cons_of_mem _ hk)
    rwa [valV_neg (fun e => n2.1 (by show p.1 ∈ _; rw [e]; exact hk))] at h2
/-- what both are asked of -/
structure WaysIn (H : Hp) (d : Addr) (kvs : List (KL × V)) (U : List KL) (gs : KL → List KL) : Prop where
  hd : H d = some (.dT kvs)
  hw : WaysK H d kvs U gs
  nd : U.Nodup
  le : U.length ≤ 20000
  two : ∀ k, k ∈ U → (gs k).length ≤ 2
  go : ∀ k, k ∈ U → ∀ g, g ∈ gs k → g ∈ U
def spLO : Sp := fun vs H Q _ => ∃ (d : Addr) (kvs : List (KL × V)) (U : List KL) (gs : KL → List KL), vs = [.ref d] ∧ WaysIn H d kvs U gs ∧ U ≠ [] ∧ ∀ (o : Option Nat) G, Mem U gs (o.map (· + 1)) → Same H G → Q (oV o) G
theorem ok_lo {f fLG : Addr} {fd fdLG : FuncData} (F : Fun K "longest" "longest" sLO f fd) (B : BN mg)
    (GLG : FnOk P w K mg base CX0 1 fLG fdLG ["ways"] spLG) (lgm : mg "longest_lengths" = some (.ref fLG)) (lgk : PySem.W.keepIn K (.ref fLG) = true) (lgb : Binds K fdLG ["ways"] []) : FnOk P w K mg base CX0 2 f fd ["ways"] spLO := by
  refine F.ok scLO (fun vs H Q E h => ?_) (fun cdv A outer s H vs Q E hr h => ?_)
  · obtain ⟨d, _, _, _, rfl, _⟩ := h
    rfl
  · obtain ⟨d, kvs, U, gs, rfl, W, hne, q⟩ := h
    refine ⟨_, (pss_cons (ps_set (i := 1) scLO.nd rfl (.inl rfl) (pe_call GLG (hr.mono (by decide)) rfl lgm lgk lgb .nil pass0 (pa_cons (pv 0) pa_nil)))
      (pss_one (ps_ret (pe_ifExp (pt_cmpR op_eq (pe_callB call_len_dT (by rfl) B.len PySem.boot_len (pa_cons (pv 1) pa_nil)) (pe_callB call_len_dT (by rfl) B.len PySem.boot_len (pa_cons (pv 0) pa_nil)) (nomark _)) (pe_callB (cr_maxG rfl hr.units) (by rfl) B.max (by decide +kernel) (pa_cons (pe_listVals rfl (by rfl) B.lst (pv 1)) pa_nil)) pe_non)))), ?_⟩
    refine ⟨_, rfl, d, kvs, U, gs, rfl, W.hd, W.hw, W.nd, W.le, W.two, W.go, fun dl G kn len un s ndl hL hK hT => ?_⟩
    obtain ⟨kvl, e1, e2, e3⟩ := id hL
    have hll : kvl.length = kn.length := by rw [← e2, List.length_map]
    have hkl : kvs.length = U.length := by rw [← W.hw.1, List.length_map]
    refine ⟨_, rfl, dl, _, rfl, e1, _, rfl, d, _, rfl, s _ _ W.hd, rfl, _, rfl, ?_⟩
    rw [hll, hkl]
    by_cases c : kn.length = U.length
    · rw [decide_eq_true (show V.int ((kn.length : Nat) : Int) = V.int ((U.length : Nat) : Int) by rw [c])]
      have hall := hK.full W.nd c
      refine iteT ⟨_, rfl, dl, kvl, rfl, e1, fun A nA => ?_⟩
      have hv : kvl.map (·.2) = kn.map fun k => V.int ((len k : Nat) : Int) := by
        rw [vals_of (f := fun k => V.int ((len k : Nat) : Int)) (by rw [e2]; exact hK.nd) (by rw [e2]; exact e3), e2]
      have hne' : kn ≠ [] := fun z => hne (List.length_eq_zero_iff.mp (by rw [← c, z]; rfl))
      obtain ⟨k0, kr, rfl⟩ : ∃ k0 kr, kn = k0 :: kr := by
        cases kn with
        | nil => exact absurd rfl hne'
        | cons a r => exact ⟨a, r, rfl⟩
      refine ⟨A, ((len k0 : Nat) : Int), kr.map fun k => ((len k : Nat) : Int), rfl, ?_, fun m hm => ?_⟩
      · rw [hv]
        refine SqL.of (by rw [upd_same, List.map_cons, List.map_cons, List.map_map]; rfl)
      · have hm' : Grt ((k0 :: kr).map fun k => ((len k : Nat) : Int)) m := hm
        obtain ⟨x, hx, rfl⟩ := List.mem_map.mp hm'.1
        refine q (some (len x)) _ (mem_some (fun p hp => hT p (hall p hp)) (fun p hp => ?_) ⟨x, ((hK.mem x).mp hx).1, rfl⟩) (s.trans (same_new nA))
        have := hm'.2 _ (List.mem_map.mpr ⟨p, hall p hp, rfl⟩)
        omega
    · rw [decide_eq_false (show ¬ V.int ((kn.length : Nat) : Int) = V.int ((U.length : Nat) : Int) from fun e => c (by have := V.int.inj e; omega))]
      obtain ⟨p, hp, hn⟩ := hK.part W.nd c
      exact iteF (q none G (hK.mem_none W.go hp hn) s)
/-! least_beyond -/
abbrev sLY2 : Stmt := topS 38
abbrev nLY2 : List Str := ["ways","length"]
theorem scLY2 : FnScope nLY2 ["ways"] (defScope sLY2) := ⟨rfl, rfl, rfl, by decide +kernel, rfl, by decide +kernel, by decide +kernel⟩
def spLY2 : Sp := fun vs H Q _ => ∃ (d : Addr) (kvs : List (KL × V)) (U : List KL) (gs : KL → List KL), vs = [.ref d] ∧ WaysIn H d kvs U gs ∧ ∀ (o : Option Nat) G, Mem U gs o → Same H G → Q (oV o) G
theorem ok_ly2 {f fLO : Addr} {fd fdLO : FuncData} (F : Fun K "least_beyond" "least_beyond" sLY2 f fd) (B : BN mg)
    (GLO : FnOk P w K mg base CX0 2 fLO fdLO ["ways"] spLO) (lom : mg "longest" = some (.ref fLO)) (lok : PySem.W.keepIn K (.ref fLO) = true) (lob : Binds K fdLO ["ways"] []) : FnOk P w K mg base CX0 3 f fd ["ways"] spLY2 := by
  refine F.ok scLY2 (fun vs H Q E h => ?_) (fun cdv A outer s H vs Q E hr h => ?_)
  · obtain ⟨d, _, _, _, rfl, _⟩ := h
    rfl
  · obtain ⟨d, kvs, U, gs, rfl, W, q⟩ := h
    refine ⟨_, (pss_cons (ps_if (pt_not (pt_dT (pv 0) (by intro _; rfl))) (pss_one (ps_ret pe_int)) pss_nil)
      (pss_cons (ps_set (i := 1) scLY2.nd rfl (.inl rfl) (pe_call GLO (hr.mono (by decide)) rfl lom lok lob .nil pass0 (pa_cons (pv 0) pa_nil)))
      (pss_one (ps_ret (pe_ifExp (pt_cmpR op_isN (pv 1) pe_non (nomark _)) pe_non (pe_op op_add (pv 1) pe_int)))))), ?_⟩
    have hkl : kvs.length = U.length := by rw [← W.hw.1, List.length_map]
    refine ⟨_, rfl, d, kvs, rfl, W.hd, ?_⟩
    cases kvs with
    | nil =>
      obtain rfl : U = [] := List.length_eq_zero_iff.mp hkl.symm
      exact iteT (q (some 0) H mem_nil (fun _ _ e => e))
    | cons a r =>
      refine iteF ⟨_, rfl, d, _, U, gs, rfl, W, fun z => (by rw [z] at hkl; cases hkl), fun o G hM s => ?_⟩
      cases o with
      | none => exact ⟨_, rfl, rfl, _, rfl, iteT (q none G hM s)⟩
      | some n => exact ⟨_, rfl, rfl, _, rfl, iteF ⟨_, rfl, _, _, rfl, rfl, q (some (n + 1)) G hM s⟩⟩
end
end K28

set_option Elab.async false
set_option linter.all false
set_option maxRecDepth 100000
set_option maxHeartbeats 4000000
namespace K28
open PySem PySem.Spec PyProof.Rows L2 Pw TL
section
variable {P : Program} {w : World} {K : PySem.W.Frag} {mg : Str → Option Value} {base : Heap}
open LamX
/-! memory_of, memory -/
theorem edC_some {W : Gr} {a b : Nat} {c : Bool} {e : Bool × Nat × Nat} (h : edC W a b c = some e) : e.1 = c ∧ goG W a c = some e.2.1 ∧ goG W b c = some e.2.2 ∧ e.2.1 ≠ e.2.2 := by
  unfold edC at h
  cases e4 : goG W a c with
  | none =>
    rw [e4] at h
    cases h
  | some g =>
    cases e5 : goG W b c with
    | none =>
      rw [e4, e5] at h
      cases h
    | some h' =>
      rw [e4, e5] at h
      have h : (if g = h' then none else some (c, g, h')) = some e := h
      by_cases egh : g = h'
      · rw [if_pos egh] at h
        cases h
      · rw [if_neg egh] at h
        cases h
        exact ⟨rfl, rfl, rfl, egh⟩
theorem edN_mem {W : Gr} {a b : Nat} {e : Bool × Nat × Nat} (h : e ∈ edN W a b 2) : ∃ c, edC W a b c = some e := by
  obtain ⟨c, _, h2⟩ := List.mem_filterMap.mp h
  exact ⟨c, h2⟩
theorem edN_le (W : Gr) (a b n : Nat) : (edN W a b n).length ≤ 2 := by
  unfold edN
  refine Nat.le_trans (List.length_filterMap_le _ _) ?_
  rw [List.length_take]
  show min n 2 ≤ 2
  omega
theorem mem_edN {W : Gr} {a b : Nat} {c : Bool} {e : Bool × Nat × Nat} (h : edC W a b c = some e) : e ∈ edN W a b 2 := by
  refine List.mem_filterMap.mpr ⟨c, ?_, h⟩
  cases c
  · exact List.mem_cons_self ..
  · exact List.mem_cons_of_mem _ (List.mem_cons_self ..)
/-- where a pair leads -/
def gP (W : Gr) (r : Nat × Nat) : List (Nat × Nat) := (edN W r.1 r.2 2).map (·.2)
theorem gP_mem {W : Gr} {r g : Nat × Nat} : g ∈ gP W r ↔ ∃ c, goG W r.1 c = some g.1 ∧ goG W r.2 c = some g.2 ∧ g.1 ≠ g.2 := by
  constructor
  · intro h
    obtain ⟨e, he, rfl⟩ := List.mem_map.mp h
    obtain ⟨c, hc⟩ := edN_mem he
    obtain ⟨_, h1, h2, h3⟩ := edC_some hc
    exact ⟨c, h1, h2, h3⟩
  · rintro ⟨c, h1, h2, h3⟩
    refine List.mem_map.mpr ⟨(c, g.1, g.2), mem_edN (c := c) ?_, rfl⟩
    unfold edC
    rw [h1, h2]
    exact if_neg h3
/-- the same by keys -/
def gK (W : Gr) : KL → List KL
  | [.inl a, .inl b] => (gP W (a.toNat, b.toNat)).map ky
  | _ => []
theorem gK_ky (W : Gr) (r : Nat × Nat) : gK W (ky r) = (gP W r).map ky := rfl
theorem unN_nd (n : Nat) : ∀ m k, (unN n m k).Nodup := by
  have row : ∀ m, (unN n m 0).Nodup → ∀ k, (unN n m k).Nodup := fun m h k => by
    induction k with
    | zero => exact h
    | succ k ih =>
      rw [unN_snoc]
      split
      · rw [List.append_nil]
        exact ih
      · refine List.nodup_append.mpr ⟨ih, List.pairwise_singleton _ _, fun x hx y hy e => ?_⟩
        rw [List.mem_singleton.mp hy] at e
        subst e
        rcases unN_mem.mp hx with ⟨z, _, _⟩ | ⟨_, z, _⟩
        · exact absurd z (Nat.lt_irrefl _)
        · exact absurd z (Nat.lt_irrefl _)
  intro m
  induction m with
  | zero => exact row 0 List.nodup_nil
  | succ m ih =>
    refine row (m + 1) ?_
    rw [← unN_row]
    exact ih n
theorem un_in {n : Nat} {r : Nat × Nat} : r ∈ unN n n 0 ↔ r.1 < n ∧ r.2 < n ∧ r.2 ≠ r.1 := by
  rw [unN_mem]
  constructor
  · rintro (h | ⟨_, z, _⟩)
    · exact h
    · exact absurd z (Nat.not_lt_zero _)
  · exact .inl
theorem gP_in {W : Gr} (hc : Closed W) {r g : Nat × Nat} (h : g ∈ gP W r) : g ∈ unN W.length W.length 0 := by
  obtain ⟨c, h1, h2, h3⟩ := gP_mem.mp h
  exact un_in.mpr ⟨hc _ _ _ h1, hc _ _ _ h2, fun z => h3 z.symm⟩
theorem paired_mapR {α β γ : Type} {F : α → γ → Prop} (f : β → γ) : ∀ {l₁ : List α} {l₂ : List β}, Paired (fun a b => F a (f b)) l₁ l₂ → Paired F l₁ (l₂.map f)
  | _, _, .nil => .nil
  | _, _, .cons a b => .cons a (paired_mapR f b)
theorem valV_at : ∀ {kvs : List (KL × V)} {i : Nat} {k : KL} {v : V}, (kvs.map (·.1)).Nodup → kvs[i]? = some (k, v) → valV kvs k = some v
  | [], _, _, _, _, h => nomatch h
  | p :: r, 0, k, v, _, h => by
    obtain rfl : p = (k, v) := Option.some.inj h
    exact valV_pos rfl
  | p :: r, i + 1, k, v, nd, h => by
    have n2 := List.nodup_cons.mp nd
    have hr : r[i]? = some (k, v) := h
    rw [valV_neg (fun e => n2.1 (by show p.1 ∈ _; rw [e]; exact List.mem_map.mpr ⟨_, List.mem_of_getElem? hr, rfl⟩))]
    exact valV_at n2.2 hr
theorem ways_in {H : Hp} {d : Addr} {W : Gr} (hc : Closed W) (h40 : W.length ≤ 40) (h : WyAt H d W (unN W.length W.length 0)) : ∃ kvs, WaysIn H d kvs ((unN W.length W.length 0).map ky) (gK W) := by
  obtain ⟨ls, hd, hp⟩ := h
  have hl := Paired.length hp
  have hk : (((unN W.length W.length 0).zip ls).map fun p => (ky p.1, V.ref p.2)).map (·.1) = (unN W.length W.length 0).map ky := by
    rw [List.map_map]
    have : ((unN W.length W.length 0).zip ls).map ((fun p : KL × V => p.1) ∘ fun p => (ky p.1, V.ref p.2)) = (((unN W.length W.length 0).zip ls).map (·.1)).map ky := by rw [List.map_map]; rfl
    rw [this, List.map_fst_zip (by omega)]
  have nd : ((unN W.length W.length 0).map ky).Nodup := by
    refine List.Pairwise.map _ (fun a b hab e => hab (ky_inj e)) (unN_nd _ _ _)
  have hle := unN_le W.length W.length 0
  have hmul : W.length * W.length ≤ 40 * 40 := Nat.mul_le_mul h40 h40
  refine ⟨_, hd, ⟨hk, fun k hkm => ?_⟩, nd, by rw [List.length_map]; omega, fun k hkm => ?_, fun k hkm g hg => ?_⟩
  · obtain ⟨r, hr, rfl⟩ := List.mem_map.mp hkm
    obtain ⟨i, hi⟩ := List.getElem?_of_mem hr
    have hil : i < ls.length := by rw [hl]; exact (List.getElem?_eq_some_iff.mp hi).1
    have el : ls[i]? = some ls[i] := List.getElem?_eq_getElem hil
    generalize ls[i] = l at el
    have ha := paired_get hp el hi
    refine ⟨l, valV_at (i := i) (by rw [hk]; exact nd) (by rw [List.getElem?_map, List.getElem?_zip_eq_some (z := (r, l)) |>.mpr ⟨hi, el⟩]; rfl), fun z => ?_, ?_⟩
    · obtain ⟨ts, e, _⟩ := ha
      rw [z, hd] at e
      cases e
    · obtain ⟨ts, e, hpr⟩ := ha
      refine ⟨ts, e, ?_⟩
      rw [gK_ky]
      unfold gP
      rw [List.map_map]
      exact paired_mapR _ (Paired.mapP hpr fun t e ⟨u, x, y⟩ => ⟨_, u, x, y⟩)
  · obtain ⟨r, hr, rfl⟩ := List.mem_map.mp hkm
    rw [gK_ky, List.length_map]
    unfold gP
    rw [List.length_map]
    exact edN_le _ _ _ _
  · obtain ⟨r, hr, rfl⟩ := List.mem_map.mp hkm
    rw [gK_ky] at hg
    obtain ⟨g', hg', rfl⟩ := List.mem_map.mp hg
    exact List.mem_map.mpr ⟨g', gP_in hc hg', rfl⟩
theorem mem_ky {W : Gr} {o : Option Nat} : Mem (unN W.length W.length 0) (gP W) o ↔ Mem ((unN W.length W.length 0).map ky) (gK W) o :=
  mem_img ky (fun p g hg => by rw [gK_ky]; exact List.mem_map.mpr ⟨g, hg, rfl⟩) (fun p g' hg' => by rw [gK_ky] at hg'; exact (List.mem_map.mp hg').imp fun g h => h) (fun p hp => List.mem_map.mpr ⟨p, hp, rfl⟩) (fun q hq => (List.mem_map.mp hq).imp fun p h => h)
abbrev sMO2 : Stmt := topS 39
theorem scMO2 : FnScope ["stands"] ["stands"] (defScope sMO2) := ⟨rfl, rfl, rfl, by decide +kernel, rfl, by decide +kernel, by decide +kernel⟩
def spMO2 : Sp := fun vs H Q _ => ∃ (a : Addr) (W : Gr), vs = [.ref a] ∧ GrAt H a W ∧ Closed W ∧ W.length ≤ 40 ∧ ∀ (o : Option Nat) G, Mem (unN W.length W.length 0) (gP W) o → Same H G → Q (oV o) G
theorem ok_mo2 {f fBW fLY : Addr} {fd fdBW fdLY : FuncData} (F : Fun K "memory_of" "memory_of" sMO2 f fd)
    (GBW : FnOk P w K mg base CX0 1 fBW fdBW ["stands"] spBW) (bwm : mg "blurred_ways" = some (.ref fBW)) (bwk : PySem.W.keepIn K (.ref fBW) = true) (bwb : Binds K fdBW ["stands"] [])
    (GLY : FnOk P w K mg base CX0 3 fLY fdLY ["ways"] spLY2) (lym : mg "least_beyond" = some (.ref fLY)) (lyk : PySem.W.keepIn K (.ref fLY) = true) (lyb : Binds K fdLY ["ways"] []) : FnOk P w K mg base CX0 4 f fd ["stands"] spMO2 := by
  refine F.ok scMO2 (fun vs H Q E h => ?_) (fun cdv A outer s H vs Q E hr h => ?_)
  · obtain ⟨a, W, rfl, _⟩ := h
    rfl
  · obtain ⟨a, W, rfl, hg, hc, h40, q⟩ := h
    refine ⟨_, (pss_one (ps_ret (pe_call GLY (hr.mono (by decide)) rfl lym lyk lyb .nil pass0 (pa_cons (pe_call GBW (hr.mono (by decide)) rfl bwm bwk bwb .nil pass0 (pa_cons (pv 0) pa_nil)) pa_nil)))), ?_⟩
    refine ⟨_, rfl, a, W, rfl, hg, h40, fun d G s nd hw => ?_⟩
    obtain ⟨kvs, hin⟩ := ways_in hc h40 hw
    exact ⟨d, kvs, _, _, rfl, hin, fun o G2 hM s2 => q o G2 (mem_ky.mpr hM) (s.trans s2)⟩
abbrev sME : Stmt := topS 40
theorem scME : FnScope ["rule"] ["rule"] (defScope sME) := ⟨rfl, rfl, rfl, by decide +kernel, rfl, by decide +kernel, by decide +kernel⟩
def spME (R CW : Addr) (T : List (Addr × Str)) : Sp := fun vs H Q E => ∃ (r pw : Addr) (ys : List Str) (lo : Int) (hi sp : Option Int), vs = [.ref r] ∧
  RuleAt H R r pw ys lo hi sp ∧ RuleOk ys lo hi sp ∧ ys.length ≤ 10 ∧ (∀ s, sp = some s → s ≤ 4) ∧ Tabs T H ∧
  ∀ W, WebOf (lawR ys lo hi sp) W → webOut CW T W H E ∧ (W.length ≤ 40 → ∀ (o : Option Nat) G, Mem (unN W.length W.length 0) (gP W) o → ExtN H G → Tabs T G → Q (oV o) G)
theorem ok_me {f fWB fMO R CW : Addr} {fd fdWB fdMO : FuncData} {T : List (Addr × Str)} (F : Fun K "memory" "memory" sME f fd)
    (GWB : FnOk P w K mg base (L2.CX P w) 7 fWB fdWB ["rule"] (spWB R CW T)) (wbm : mg "web" = some (.ref fWB)) (wbk : PySem.W.keepIn K (.ref fWB) = true) (wbb : Binds K fdWB ["rule"] [])
    (GMO : FnOk P w K mg base CX0 4 fMO fdMO ["stands"] spMO2) (mom : mg "memory_of" = some (.ref fMO)) (mok : PySem.W.keepIn K (.ref fMO) = true) (mob : Binds K fdMO ["stands"] []) : FnOk P w K mg base (L2.CX P w) 8 f fd ["rule"] (spME R CW T) := by
  refine F.okX scME (fun vs H Q E h => ?_) (fun cdv A outer s H vs Q E hr h => ?_)
  · obtain ⟨r1, pw1, ys1, lo1, hi1, sp1, rfl, _⟩ := h
    rfl
  · obtain ⟨r, pw, ys, lo, hi, sp, rfl, hR, ok, ten, four, hTab, q⟩ := h
    refine ⟨_, (pss_one (ps_ret (pe_call GMO (hr.mono (by decide)) rfl mom mok mob .nil pass0 (pa_cons (pe_call (E := E) GWB (hr.mono (by decide)) rfl wbm wbk wbb .nil (passes_call (takes_of rfl rfl rfl rfl) (fun _ _ _ _ z => z)) (pa_cons (pv 0) pa_nil)) pa_nil)))), ?_⟩
    refine ⟨_, rfl, r, pw, ys, lo, hi, sp, rfl, hR, ok, ten, four, hTab, fun W hw _ => ?_⟩
    obtain ⟨qe, qo⟩ := q W hw
    refine ⟨fun h40 a G1 e1 t1 na hg1 => ?_, qe⟩
    exact ⟨a, W, rfl, hg1, hw.closed, h40, fun o G hM s => qo h40 o G hM (ext_trans e1 (ext_same s)) (tabs_same t1 s)⟩
end
end K28

set_option Elab.async false
set_option linter.all false
set_option maxRecDepth 100000
set_option maxHeartbeats 4000000
namespace K28
open PySem PySem.Spec PyProof.Rows L2 Pw TL
section
variable {P : Program} {w : World} {K : PySem.W.Frag} {mg : Str → Option Value} {base : Heap}
open LamX
/-! _law_memory -/
abbrev sLM : Stmt := topS 70
abbrev nLM : List Str := ["_law_pairs","_law_here","_law_one","_law_other","_law_many","_law_fresh","_law_sign","_law_goals"]
theorem scLM : FnScope nLM ["_law_pairs"] (defScope sLM) := ⟨rfl, rfl, rfl, by decide +kernel, rfl, by decide +kernel, by decide +kernel⟩
/-- pairs without their order -/
def srt (r : Nat × Nat) : Nat × Nat := (min r.1 r.2, max r.1 r.2)
def gU (W : Gr) (r : Nat × Nat) : List (Nat × Nat) := (gP W r).map srt
def uU (n : Nat) : List (Nat × Nat) := (unN n n 0).filter fun r => decide (r.1 < r.2)
theorem uU_mem {n : Nat} {r : Nat × Nat} : r ∈ uU n ↔ r.1 < r.2 ∧ r.2 < n := by
  unfold uU
  rw [List.mem_filter, un_in, decide_eq_true_iff]
  exact ⟨fun ⟨⟨a, b, c⟩, d⟩ => ⟨d, b⟩, fun ⟨a, b⟩ => ⟨⟨by omega, b, by omega⟩, a⟩⟩
theorem srt_lt {r : Nat × Nat} (h : r.1 < r.2) : srt r = r := by
  unfold srt
  rw [Nat.min_eq_left (by omega), Nat.max_eq_right (by omega)]
theorem srt_gt {r : Nat × Nat} (h : r.2 < r.1) : srt r = (r.2, r.1) := by
  unfold srt
  rw [Nat.min_eq_right (by omega), Nat.max_eq_left (by omega)]
theorem gP_swap {W : Gr} {r g : Nat × Nat} (h : g ∈ gP W r) : (g.2, g.1) ∈ gP W (r.2, r.1) := by
  obtain ⟨c, h1, h2, h3⟩ := gP_mem.mp h
  exact gP_mem.mpr ⟨c, h2, h1, fun z => h3 z.symm⟩
theorem srt_swap (a b : Nat) : srt (a, b) = srt (b, a) := by
  unfold srt
  rw [Nat.min_comm, Nat.max_comm]
theorem srt_in {n : Nat} {r : Nat × Nat} (h : r ∈ unN n n 0) : srt r ∈ uU n := by
  obtain ⟨h1, h2, h3⟩ := un_in.mp h
  refine uU_mem.mpr ?_
  show min r.1 r.2 < max r.1 r.2 ∧ max r.1 r.2 < n
  omega
theorem gU_in {W : Gr} (hc : Closed W) {r g : Nat × Nat} (h : g ∈ gU W r) : g ∈ uU W.length := by
  obtain ⟨g', hg', rfl⟩ := List.mem_map.mp h
  exact srt_in (gP_in hc hg')
/-- gP goes from unlike places only -/
theorem mem_srt {W : Gr} {o : Option Nat} (h : Mem (uU W.length) (gU W) o) : Mem (unN W.length W.length 0) (gP W) o := by
  refine (mem_img (gs := gP W) (gs' := gU W) srt (fun p g hg => ?_) (fun p g' hg' => ?_) (fun p hp => srt_in hp) (fun q hq => ?_)).mpr h
  · by_cases e : p.2 < p.1
    · rw [srt_gt e]
      exact List.mem_map.mpr ⟨(g.2, g.1), gP_swap hg, srt_swap _ _⟩
    · have : srt p = p := by
        unfold srt
        rw [Nat.min_eq_left (by omega), Nat.max_eq_right (by omega)]
      rw [this]
      exact List.mem_map.mpr ⟨g, hg, rfl⟩
  · obtain ⟨g, hg, rfl⟩ := List.mem_map.mp hg'
    by_cases e : p.2 < p.1
    · rw [srt_gt e] at hg
      exact ⟨(g.2, g.1), gP_swap hg, srt_swap _ _⟩
    · have : srt p = p := by
        unfold srt
        rw [Nat.min_eq_left (by omega), Nat.max_eq_right (by omega)]
      rw [this] at hg
      exact ⟨g, hg, rfl⟩
  · obtain ⟨h1, h2⟩ := uU_mem.mp hq
    exact ⟨q, un_in.mpr ⟨by omega, h2, by omega⟩, srt_lt h1⟩
theorem uU_le (n : Nat) : (uU n).length ≤ n * n := by
  have h1 := List.length_filter_le (fun r : Nat × Nat => decide (r.1 < r.2)) (unN n n 0)
  have h2 := unN_le n n 0
  unfold uU
  omega
theorem uU_nd (n : Nat) : (uU n).Nodup := (unN_nd n n 0).sublist List.filter_sublist
/-- a dict of pairs, as a set -/
def DcS (G : Hp) (d : Addr) (L : List (Nat × Nat)) : Prop := DcK G d (L.map ky) (fun _ => .bl true) ∧ L.Nodup
theorem DcS.same {G G' : Hp} {d : Addr} {L : List (Nat × Nat)} (h : DcS G d L) (s : Same G G') : DcS G' d L := ⟨h.1.same s, h.2⟩
theorem ky_mem {L : List (Nat × Nat)} {r : Nat × Nat} : ky r ∈ L.map ky ↔ r ∈ L := ⟨fun h => by obtain ⟨x, hx, e⟩ := List.mem_map.mp h; rw [← ky_inj e]; exact hx, fun h => List.mem_map.mpr ⟨r, h, rfl⟩⟩
/-- one more, which may be there -/
theorem DcS.put {G : Hp} {d b : Addr} {L : List (Nat × Nat)} (h : DcS G d L) {r : Nat × Nat} (eb : G b = some (.tup ((ky r).map kV))) (hl : L.length < sizeLine) : ∃ G' L', DPut G d (.ref b) (.bl true) G' ∧ OffX d G G' ∧ DcS G' d L' ∧ (∀ q, q ∈ L' ↔ q ∈ L ∨ q = r) ∧ ∀ c, c ≠ d → G' c = G c := by
  by_cases c : r ∈ L
  · obtain ⟨G', a1, a2, a3, a4⟩ := h.1.put (ky_mem.mpr c) eb (.bl true) (by rw [List.length_map]; exact hl)
    exact ⟨G', L, a1, a2, ⟨a3.ext fun k _ => by show (if k = ky r then V.bl true else V.bl true) = V.bl true; split <;> rfl, h.2⟩, fun q => ⟨.inl, fun z => z.elim id fun e => e ▸ c⟩, a4⟩
  · obtain ⟨G', _, a1, a2, a3, a4⟩ := h.1.addT (fun z => c (ky_mem.mp z)) eb (.bl true) (by rw [List.length_map]; exact hl)
    refine ⟨G', L ++ [r], a1, a2, ⟨?_, ?_⟩, fun q => ?_, a4⟩
    · rw [List.map_append]
      exact a3.ext fun k _ => by show (if k = ky r then V.bl true else V.bl true) = V.bl true; split <;> rfl
    · exact nd_snoc h.2 c
    · rw [List.mem_append, List.mem_singleton]
def spLM : Sp := fun vs H Q _ => ∃ (a : Addr) (W : Gr), vs = [.ref a] ∧ GrAt H a W ∧ Closed W ∧ W.length ≤ 40 ∧ ∀ (o : Option Nat) G, Mem (unN W.length W.length 0) (gP W) o → Same H G → Q (oV o) G
theorem gr_pairM {K : PySem.W.Frag} {H : Hp} {a : Addr} {W : Gr} {k : Nat} (h : GrAt H a W) (hk : k < W.length) : ∃ t xs, SqL K H a xs ∧ atI xs ((k : Nat) : Int) = some (.ref t) ∧ H t = some (.tup [oV (goG W k false), oV (goG W k true)]) := by
  have ec : W[k]? = some W[k] := List.getElem?_eq_getElem hk
  have go : ∀ c, goG W k c = pick W[k] c := fun c => by
    unfold goG
    rw [ec]
    rfl
  obtain ⟨ts, h1, h2⟩ := h
  have hl := Paired.length h2
  have et : ts[k]? = some ts[k] := List.getElem?_eq_getElem (by omega)
  have h3 := paired_get h2 et ec
  rw [go, go]
  exact ⟨_, _, SqL.of h1, atI_nat (by rw [List.getElem?_map, et]; rfl), h3⟩
theorem ok_lm {f : Addr} {fd : FuncData} {k : Nat} (F : Fun K "_law_memory" "_law_memory" sLM f fd) (B : BN mg) : FnOk P w K mg base CX0 (k + 1) f fd ["_law_pairs"] spLM := by
  refine F.ok scLM (fun vs H Q E h => ?_) (fun cdv A outer s H vs Q E hr h => ?_)
  · obtain ⟨a, W, rfl, _⟩ := h
    rfl
  · obtain ⟨a, W, rfl, hg, hc, h40, q⟩ := h
    refine ⟨_, (pss_cons (ps_set (i := 1) scLM.nd rfl (.inl rfl) pe_dnewT)
      (pss_cons (ps_for PassesOwn.never rfl (pi_range1 rfl B.rng (pa_cons (pe_callB call_len_seq (by rfl) B.len PySem.boot_len (pa_cons (pv 0) pa_nil)) pa_nil)) (pg_name (i := 2) scLM.nd rfl (.inl rfl))
        (pss_one (ps_for PassesOwn.never rfl (pi_range2 rfl B.rng (pa_cons (pe_op op_add (pv 2) pe_int) (pa_cons (pe_callB call_len_seq (by rfl) B.len PySem.boot_len (pa_cons (pv 0) pa_nil)) pa_nil))) (pg_name (i := 3) scLM.nd rfl (.inl rfl))
          (pss_one (ps_dput (room1 hr) (pv 1) (pe_tup (pa_cons (pv 2) (pa_cons (pv 3) pa_nil))) pe_bl rfl)))))
      (pss_cons (ps_set (i := 4) scLM.nd rfl (.inl rfl) pe_int)
      (pss_cons (ps_while PassesOwn.never (pt_cmpR op_gt (pe_callB call_len_dT (by rfl) B.len PySem.boot_len (pa_cons (pv 1) pa_nil)) pe_int (nomark _))
        (pss_cons (ps_set (i := 5) scLM.nd rfl (.inl rfl) pe_dnewT)
        (pss_cons (ps_lock (ps_for PassesOwn.never rfl (pi_keys (pv 1)) (pg_tup rfl (pgs_cons (pg_name (i := 2) scLM.nd rfl (.inl rfl)) (pgs_cons (pg_name (i := 3) scLM.nd rfl (.inl rfl)) pgs_nil)))
          (pss_one (ps_for PassesOwn.never rfl (pi_tup (pe_tup (pa_cons pe_int (pa_cons pe_int pa_nil)))) (pg_name (i := 6) scLM.nd rfl (.inl rfl))
            (pss_cons (ps_set (i := 7) scLM.nd rfl (.inl rfl) (pe_tup (pa_cons (pe_ix ix_tup (pe_ix ix_list (pv 0) (pv 2) (fun _ _ => rfl)) (pv 6) (fun _ _ => rfl)) (pa_cons (pe_ix ix_tup (pe_ix ix_list (pv 0) (pv 3) (fun _ _ => rfl)) (pv 6) (fun _ _ => rfl)) pa_nil))))
            (pss_one (ps_if (PW.pt (pw_and (pt_cmpR op_notIn_seq pe_non (pv 7) (by rfl)) (pw_and1 (pt_cmpR op_ne (pe_ix ix_tup (pv 7) pe_int (fun _ _ => rfl)) (pe_ix ix_tup (pv 7) pe_int (fun _ _ => rfl)) (nomark _)))))
              (pss_one (ps_dput (room1 hr) (pv 5) (pe_tup (pa_cons (pe_callB (cr_minP rfl hr.units) (by rfl) B.min (by decide +kernel) (pa_cons (pv 7) pa_nil)) (pa_cons (pe_callB (cr_maxP rfl hr.units) (by rfl) B.max (by decide +kernel) (pa_cons (pv 7) pa_nil)) pa_nil))) pe_bl rfl))
              pss_nil)))))))
        (pss_cons (ps_if (pt_cmpR op_eq (pe_callB call_len_dT (by rfl) B.len PySem.boot_len (pa_cons (pv 5) pa_nil)) (pe_callB call_len_dT (by rfl) B.len PySem.boot_len (pa_cons (pv 1) pa_nil)) (nomark _))
          (pss_one (ps_ret pe_non))
          pss_nil)
        (pss_cons (ps_set (i := 1) scLM.nd rfl (.inl rfl) (pv 5))
        (pss_one (ps_set (i := 4) scLM.nd rfl (.inl rfl) (pe_op op_add (pv 4) pe_int))))))))
      (pss_one (ps_ret (pv 4))))))), ?_⟩
    obtain ⟨gs, hgs, hgp⟩ := id hg
    have hgl : (gs.map V.ref).length = W.length := by
      rw [List.length_map]
      exact Paired.length hgp
    have hmul : W.length * W.length ≤ 40 * 40 := Nat.mul_le_mul h40 h40
    have short : ∀ {L : List (Nat × Nat)}, L.Nodup → (∀ q, q ∈ L → q ∈ uU W.length) → L.length < sizeLine := fun {L} nd hs => by
      have h1 := nd_le _ _ nd hs
      have h2 := uU_le W.length
      exact smallC (by omega)
    intro d0 nd0
    have s0 := same_new (o := .dT []) nd0
    refine ⟨_, rfl, a, _, rfl, .inl (SqL.of (s0 _ _ hgs)), ?_⟩
    rw [hgl]
    refine ⟨(W.length : Int), rfl, by omega, by omega, for_range (lo := 0) (n := W.length) (fun i σ G => (∃ y2 y3 : Option V, σ = [some (.ref a), some (.ref d0), y2, y3, none, none, none, none]) ∧ Same H G ∧ ∃ L, DcS G d0 L ∧ ∀ q, q ∈ L ↔ q.1 < i ∧ q.1 < q.2 ∧ q.2 < W.length)
      ⟨⟨_, _, rfl⟩, s0, [], ⟨.nil upd_same, List.nodup_nil⟩, fun q => ⟨fun h => (nomatch h), fun h => absurd h.1 (Nat.not_lt_zero _)⟩⟩ (fun i σ G hi h => ?_) (fun σ G h => ?_)⟩
    · obtain ⟨⟨y2, y3, rfl⟩, sG, L, hL, hm⟩ := h
      have hn : H d0 = none := nd0
      refine ⟨_, rfl, _, _, rfl, rfl, _, rfl, a, _, rfl, .inl (SqL.of (sG _ _ hgs)), ?_⟩
      rw [hgl]
      refine ⟨_, _, rfl, ⟨by omega, by omega, by omega, by omega⟩, ?_⟩
      rw [show ((W.length : Int) - (0 + (i : Int) + 1)).toNat = W.length - (i + 1) by omega]
      refine for_range (lo := 0 + (i : Int) + 1) (n := W.length - (i + 1)) (fun j σ G => (∃ y3 : Option V, σ = [some (.ref a), some (.ref d0), some (.int (0 + (i : Int))), y3, none, none, none, none]) ∧ Same H G ∧ ∃ L, DcS G d0 L ∧ ∀ q, q ∈ L ↔ (q.1 < i ∧ q.1 < q.2 ∧ q.2 < W.length) ∨ (q.1 = i ∧ i < q.2 ∧ q.2 < i + 1 + j))
        ⟨⟨_, rfl⟩, sG, L, hL, fun q => by rw [hm q]; omega⟩ (fun j σ G hj h => ?_) (fun σ G h => ?_)
      · obtain ⟨⟨y3, rfl⟩, sG, L, hL, hm⟩ := h
        refine ⟨_, rfl, _, rfl, _, rfl, by show 2 ≤ sizeLine; decide, fun T nT => ?_⟩
        have s1 := same_new (o := .tup [.int (0 + (i : Int)), .int (0 + (i : Int) + 1 + (j : Int))]) nT
        have hT : (upd G T (.tup [.int (0 + (i : Int)), .int (0 + (i : Int) + 1 + (j : Int))])) T = some (.tup ((ky (i, i + 1 + j)).map kV)) := by
          rw [upd_same]
          show some (HO.tup [.int (0 + (i : Int)), .int (0 + (i : Int) + 1 + (j : Int))]) = some (HO.tup [.int ((i : Nat) : Int), .int ((i + 1 + j : Nat) : Int)])
          rw [show (0 + (i : Int)) = ((i : Nat) : Int) by omega, show (((i : Nat) : Int) + 1 + (j : Int)) = ((i + 1 + j : Nat) : Int) by omega]
        have L1 := hL.same s1
        generalize upd G T (.tup [.int (0 + (i : Int)), .int (0 + (i : Int) + 1 + (j : Int))]) = G1 at s1 hT L1
        obtain ⟨G2, L2, a1, a2, a3, a4, a5⟩ := L1.put hT (short hL.2 fun q hq => uU_mem.mpr (by have := (hm q).mp hq; omega))
        refine ⟨d0, G2, rfl, a1, ⟨_, rfl⟩, fun b o e => ?_, L2, a3, fun q => ?_⟩
        · rw [a5 b fun z => by rw [z, hn] at e; cases e]
          exact s1 _ _ (sG _ _ e)
        · rw [a4 q, hm q]
          constructor
          · rintro (h | rfl)
            · omega
            · exact .inr ⟨rfl, by show i < i + 1 + j; omega, by show i + 1 + j < _; omega⟩
          · rintro (h | ⟨h1, h2, h3⟩)
            · exact .inl (.inl h)
            · by_cases e : q.2 < i + 1 + j
              · exact .inl (.inr ⟨h1, h2, e⟩)
              · exact .inr (Prod.ext h1 (by show q.2 = i + 1 + j; omega))
      · obtain ⟨⟨y3, rfl⟩, sG, L, hL, hm⟩ := h
        exact ⟨⟨_, _, rfl⟩, sG, L, hL, fun q => by rw [hm q]; omega⟩
    · obtain ⟨⟨y2, y3, rfl⟩, sG, L, hL, hm⟩ := h
      have hn : H d0 = none := nd0
      have rin : ∀ k q, rch (uU W.length) (gU W) k q → q ∈ uU W.length := fun k q h => by
        cases k with
        | zero => exact h
        | succ k => obtain ⟨p, _, hq⟩ := h; exact gU_in hc hq
      refine ⟨fun m σ G => ∃ (k : Nat) (d : Addr) (L : List (Nat × Nat)) (y2 y3 y5 y6 y7 : Option V), σ = [some (.ref a), some (.ref d), y2, y3, some (.int ((k : Nat) : Int)), y5, y6, y7] ∧ Same H G ∧ H d = none ∧ DcS G d L ∧ (∀ q, q ∈ L ↔ rch (uU W.length) (gU W) k q) ∧ (∀ j, j < k → ∃ q, rch (uU W.length) (gU W) j q) ∧ L.length ≤ m,
        ⟨L.length, 0, d0, L, _, _, _, _, _, rfl, sG, hn, hL, fun q => by rw [hm q]; refine Iff.trans ?_ uU_mem.symm; omega, fun j hj => absurd hj (Nat.not_lt_zero _), Nat.le_refl _⟩, ?_⟩
      clear hn hL hm
      clear L y2 y3 sG
      rintro m σ G ⟨k, d, L, y2, y3, y5, y6, y7, rfl, sG, hn, hL, hm, hj, hLm⟩
      obtain ⟨kvl, hkv, hkl⟩ := hL.1.len
      rw [List.length_map] at hkl
      refine ⟨_, rfl, d, kvl, rfl, hkv, _, _, rfl, rfl, _, rfl, ?_⟩
      rw [hkl]
      by_cases h0 : L = []
      · subst h0
        refine iteF ⟨_, rfl, q (some k) G (mem_srt (mem_rch (fun ⟨q, hq⟩ => (nomatch (hm q).mpr hq)) hj)) sG⟩
      have hpos : 0 < L.length := List.length_pos_iff.mpr h0
      rw [decide_eq_true (show (0 : Int) < ((L.length : Nat) : Int) by omega)]
      obtain ⟨q0, hq0⟩ : ∃ q, q ∈ L := List.exists_mem_of_length_pos hpos
      refine iteT ⟨fun σ G => ∃ (d : Addr) (L2 : List (Nat × Nat)) (y2 y3 y5 y6 y7 : Option V), σ = [some (.ref a), some (.ref d), y2, y3, some (.int ((k + 1 : Nat) : Int)), y5, y6, y7] ∧ Same H G ∧ H d = none ∧ DcS G d L2 ∧ (∀ q, q ∈ L2 ↔ rch (uU W.length) (gU W) (k + 1) q) ∧ L2.length < L.length, ?_, ?_⟩
      · rintro σ' G' ⟨d, L2, y2, y3, y5, y6, y7, rfl, a1, a2, a3, a4, a5⟩
        refine ⟨L2.length, by omega, k + 1, d, L2, _, _, _, _, _, rfl, a1, a2, a3, a4, fun j hj2 => ?_, Nat.le_refl _⟩
        by_cases e : j = k
        · exact ⟨q0, by rw [e]; exact (hm q0).mp hq0⟩
        · exact hj j (by omega)
      intro df ndf
      have s1 := same_new (o := .dT []) ndf
      have hdf : (upd G df (.dT [])) df = some (.dT []) := upd_same
      have hkv1 := s1 _ _ hkv
      have nH : H df = none := none_back sG ndf
      have ddf : d ≠ df := fun z => by rw [z, ndf] at hkv; cases hkv
      have L1 := hL.same s1
      have sH1 := sG.trans s1
      clear hL
      generalize upd G df (.dT []) = G1 at hdf hkv1 L1 sH1
      clear s1 ndf hkv
      obtain ⟨kv2, e1, ek, ev⟩ := id L1.1
      obtain rfl : kvl = kv2 := HO.dT.inj (Option.some.inj (hkv1.symm.trans e1))
      clear e1
      refine ⟨d, _, hkv1, True.intro, fun od => ⟨_, rfl, d, od, rfl, .inr ⟨kvl, upd_same, ?_⟩⟩⟩
      refine for_it walk_keysT (fun i σ G => (∃ y2 y3 y6 y7 : Option V, σ = [some (.ref a), some (.ref d), y2, y3, some (.int ((k : Nat) : Int)), some (.ref df), y6, y7]) ∧ Same H G ∧ G d = some (.frz od (.dT kvl)) ∧ ∃ M, DcS G df M ∧ ∀ q, q ∈ M ↔ ∃ p, p ∈ L.take i ∧ q ∈ gU W p)
        ⟨⟨_, _, _, _, rfl⟩, same_put sH1 hn, upd_same, [], ⟨.nil ((upd_ne fun z => ddf z.symm).trans hdf), List.nodup_nil⟩, fun q => ⟨fun z => (nomatch z), fun ⟨p, hp, _⟩ => (nomatch hp)⟩⟩ (fun i σ G _ h => h.2.2.1) (fun i x σ G G' hi h y => ?_) (fun σ G h => ?_)
      · obtain ⟨⟨y2, y3, y6, y7, rfl⟩, sG, fG, M, hM, hMm⟩ := h
        obtain ⟨rfl, kk, v, qa, hk, rfl, hqa⟩ := y
        have hiL : i < L.length := by omega
        obtain ⟨p, hp, rfl⟩ : ∃ p, L[i]? = some p ∧ kk = ky p := by
          refine ⟨L[i], List.getElem?_eq_getElem hiL, ?_⟩
          have a1 : (kvl.map (·.1))[i]? = some kk := by rw [List.getElem?_map, hk]; rfl
          rw [ek, List.getElem?_map, List.getElem?_eq_getElem hiL] at a1
          exact (Option.some.inj a1).symm
        have hpU := uU_mem.mp (rin k p ((hm p).mp (List.mem_of_getElem? hp)))
        have hqa : G' qa = some (.tup [.int ((p.1 : Nat) : Int), .int ((p.2 : Nat) : Int)]) := hqa
        refine ⟨qa, _, rfl, SqT.of hqa, rfl, _, _, rfl, _, _, rfl, rfl, ?_⟩
        refine ⟨by show 2 ≤ sizeLine; decide, fun T0 nT0 => ⟨T0, rfl, ⟨_, SqT.of upd_same⟩, ?_⟩⟩
        have s2 := same_new (o := .tup [.int 0, .int 1]) nT0
        have hT0 : (upd G' T0 (.tup [.int 0, .int 1])) T0 = some (.tup [.int 0, .int 1]) := upd_same
        refine for_tup (K := K) (a := T0) (xs := [.int 0, .int 1]) (fun s σ G => (∃ y6 y7 : Option V, σ = [some (.ref a), some (.ref d), some (.int ((p.1 : Nat) : Int)), some (.int ((p.2 : Nat) : Int)), some (.int ((k : Nat) : Int)), some (.ref df), y6, y7]) ∧ Same H G ∧ G d = some (.frz od (.dT kvl)) ∧ G T0 = some (.tup [.int 0, .int 1]) ∧ ∃ M, DcS G df M ∧ ∀ q, q ∈ M ↔ (∃ p, p ∈ L.take i ∧ q ∈ gU W p) ∨ ∃ c : Bool, (if c = true then 1 else 0) < s ∧ ∃ g h, goG W p.1 c = some g ∧ goG W p.2 c = some h ∧ g ≠ h ∧ q = srt (g, h))
          ⟨⟨_, _, rfl⟩, sG.trans s2, s2 _ _ fG, hT0, M, hM.same s2, fun q => (hMm q).trans ⟨.inl, fun z => z.elim id fun ⟨c, z, _⟩ => absurd z (Nat.not_lt_zero _)⟩⟩ (fun s σ G _ h => SqT.of h.2.2.2.1) (fun s x σ G hx h => ?_) (fun σ G h => ?_)
        · clear hM hMm sG fG s2 hT0 hqa nT0
          obtain ⟨⟨y6, y7, rfl⟩, sG, fG, hT0, M, hM, hMm⟩ := h
          obtain ⟨c, hs, rfl⟩ : ∃ c : Bool, s = (if c = true then 1 else 0) ∧ x = .int (if c = true then 1 else 0) := by
            have hs := (List.getElem?_eq_some_iff.mp hx).1
            rcases (show s = 0 ∨ s = 1 by simp at hs; omega) with rfl | rfl
            · cases hx
              exact ⟨false, rfl, rfl⟩
            · cases hx
              exact ⟨true, rfl, rfl⟩
          have hgG := hg.same sG
          obtain ⟨t1, xs1, a1, a2, a3⟩ := gr_pairM (K := K) hgG (show p.1 < W.length by omega)
          obtain ⟨t2, xs2, b1, b2, b3⟩ := gr_pairM (K := K) hgG hpU.2
          have ix : ∀ k : Nat, ∀ c : Bool, atI [oV (goG W k false), oV (goG W k true)] (if c = true then 1 else 0) = some (oV (goG W k c)) := fun k c => by cases c <;> rfl
          refine ⟨_, rfl, _, rfl, a, _, _, .ref t1, rfl, rfl, a1, a2, _, rfl, t1, _, _, oV (goG W p.1 c), rfl, rfl, .inl (.inl a3), ix p.1 c, ?_⟩
          refine ⟨_, rfl, _, rfl, a, _, _, .ref t2, rfl, rfl, b1, b2, _, rfl, t2, _, _, oV (goG W p.2 c), rfl, rfl, .inl (.inl b3), ix p.2 c, ?_⟩
          refine ⟨by show 2 ≤ sizeLine; decide, fun T6 nT6 => ?_⟩
          have hT6 : (upd G T6 (.tup [oV (goG W p.1 c), oV (goG W p.2 c)])) T6 = some (.tup [oV (goG W p.1 c), oV (goG W p.2 c)]) := upd_same
          have sT6 := same_new (o := .tup [oV (goG W p.1 c), oV (goG W p.2 c)]) nT6
          have sG3 := sG.trans sT6
          have fG3 := sT6 _ _ fG
          have hT3 := sT6 _ _ hT0
          have hM3 := hM.same sT6
          generalize upd G T6 (.tup [oV (goG W p.1 c), oV (goG W p.2 c)]) = G3 at hT6 sG3 fG3 hT3 hM3
          clear sT6 hgG a1 a2 a3 b1 b2 b3 hM sG fG hT0 nT6
          have hxg : ∀ g, goG W p.1 c = some g → g < W.length := fun g e => hc p.1 c g e
          have hyg : ∀ g, goG W p.2 c = some g → g < W.length := fun g e => hc p.2 c g e
          have split : ∀ q, ((∃ p, p ∈ L.take i ∧ q ∈ gU W p) ∨ ∃ c' : Bool, (if c' = true then 1 else 0) < s + 1 ∧ ∃ g h, goG W p.1 c' = some g ∧ goG W p.2 c' = some h ∧ g ≠ h ∧ q = srt (g, h)) ↔ ((∃ p, p ∈ L.take i ∧ q ∈ gU W p) ∨ ∃ c' : Bool, (if c' = true then 1 else 0) < s ∧ ∃ g h, goG W p.1 c' = some g ∧ goG W p.2 c' = some h ∧ g ≠ h ∧ q = srt (g, h)) ∨ ∃ g h, goG W p.1 c = some g ∧ goG W p.2 c = some h ∧ g ≠ h ∧ q = srt (g, h) := fun q => by
            constructor
            · rintro (h | ⟨c', hs', h⟩)
              · exact .inl (.inl h)
              · by_cases e : c' = c
                · exact .inr (e ▸ h)
                · refine .inl (.inr ⟨c', ?_, h⟩)
                  rw [hs] at hs' ⊢
                  cases c <;> cases c' <;> first | exact absurd rfl e | (exfalso; revert hs'; decide) | decide
            · rintro ((h | ⟨c', hs', h⟩) | h)
              · exact .inl h
              · exact .inr ⟨c', by omega, h⟩
              · exact .inr ⟨c, by omega, h⟩
          have stay : (¬ ∃ q, ∃ g h, goG W p.1 c = some g ∧ goG W p.2 c = some h ∧ g ≠ h ∧ q = srt (g, h)) → ∃ M, DcS G3 df M ∧ ∀ q, q ∈ M ↔ (∃ p, p ∈ L.take i ∧ q ∈ gU W p) ∨ ∃ c' : Bool, (if c' = true then 1 else 0) < s + 1 ∧ ∃ g h, goG W p.1 c' = some g ∧ goG W p.2 c' = some h ∧ g ≠ h ∧ q = srt (g, h) := fun hno => ⟨M, hM3, fun q => (hMm q).trans ((split q).trans ⟨fun z => z.elim id fun z => absurd ⟨q, z⟩ hno, .inl⟩).symm⟩
          refine ⟨_, rfl, T6, _, rfl, .inr (SqT.of hT6), rfl, by rcases goG W p.1 c with _ | g <;> rcases goG W p.2 c with _ | h <;> rfl, _, rfl, ?_⟩
          cases ex : goG W p.1 c with
          | none =>
            exact iteF (iteF ⟨⟨_, _, rfl⟩, sG3, fG3, hT3, stay fun ⟨q, g, h, e, _⟩ => by rw [ex] at e; cases e⟩)
          | some g =>
            cases ey : goG W p.2 c with
            | none =>
              exact iteF (iteF ⟨⟨_, _, rfl⟩, sG3, fG3, hT3, stay fun ⟨q, g, h, _, e, _⟩ => by rw [ey] at e; cases e⟩)
            | some h =>
              rw [ex, ey] at hT6
              have hg' := hxg g ex
              have hh' := hyg h ey
              refine iteT ⟨_, rfl, T6, _, 0, .int (g : Nat), rfl, rfl, .inl (.inl hT6), rfl, _, rfl, T6, _, 1, .int (h : Nat), rfl, rfl, .inl (.inl hT6), rfl, rfl, _, rfl, ?_⟩
              by_cases egh : g = h
              · rw [decide_eq_true (show V.int ((g : Nat) : Int) = V.int ((h : Nat) : Int) by rw [egh])]
                exact iteF ⟨⟨_, _, rfl⟩, sG3, fG3, hT3, stay fun ⟨q, g2, h2, e1, e2, e3, _⟩ => by
                  rw [ex] at e1
                  rw [ey] at e2
                  cases e1
                  cases e2
                  exact e3 egh⟩
              rw [decide_eq_false (show ¬ V.int ((g : Nat) : Int) = V.int ((h : Nat) : Int) from fun e => egh (by have := V.int.inj e; omega))]
              refine iteT ⟨_, rfl, _, rfl, T6, _, _, rfl, SqT.of hT6, _, rfl, T6, _, _, rfl, SqT.of hT6, by show 2 ≤ sizeLine; decide, fun T8 n8 => ?_⟩
              have emx : (if (g : Int) < (h : Int) then (h : Int) else (g : Int)) = ((max g h : Nat) : Int) := by
                by_cases e : (g : Int) < h
                · rw [if_pos e, Nat.max_eq_right (by omega)]
                · rw [if_neg e, Nat.max_eq_left (by omega)]
              have emn : (if (h : Int) < (g : Int) then (h : Int) else (g : Int)) = ((min g h : Nat) : Int) := by
                by_cases e : (h : Int) < g
                · rw [if_pos e, Nat.min_eq_right (by omega)]
                · rw [if_neg e, Nat.min_eq_left (by omega)]
              rw [emx, emn]
              have s8 := same_new (o := .tup [.int ((min g h : Nat) : Int), .int ((max g h : Nat) : Int)]) n8
              have h88 : (upd G3 T8 (.tup [.int ((min g h : Nat) : Int), .int ((max g h : Nat) : Int)])) T8 = some (.tup ((ky (srt (g, h))).map kV)) := upd_same
              have sG8 := sG3.trans s8
              have fG8 := s8 _ _ fG3
              have hT8 := s8 _ _ hT3
              have M8 := hM3.same s8
              generalize upd G3 T8 (.tup [.int ((min g h : Nat) : Int), .int ((max g h : Nat) : Int)]) = G8 at h88 sG8 fG8 hT8 M8
              have hMs : ∀ q, q ∈ M → q ∈ uU W.length := fun q hq => by
                rcases (hMm q).mp hq with ⟨p', hp', h'⟩ | ⟨c', _, g', h'', e1, e2, e3, rfl⟩
                · exact gU_in hc h'
                · exact srt_in (un_in.mpr ⟨hc _ _ _ e1, hc _ _ _ e2, fun z => e3 z.symm⟩)
              obtain ⟨G9, M9, a1, a2, a3, a4, a5⟩ := M8.put h88 (short hM3.2 hMs)
              have nt : ∀ ys, G8 df ≠ some (.tup ys) := fun ys e => by
                obtain ⟨_, e2, _⟩ := M8.1
                rw [e2] at e
                cases e
              refine ⟨df, G9, rfl, a1, ⟨_, _, rfl⟩, fun b o e => ?_, a2 _ _ fG8 ddf, a2.tup nt hT8, M9, a3, fun q => ?_⟩
              · rw [a5 b fun z => by rw [z, nH] at e; cases e]
                exact sG8 _ _ e
              · refine Iff.trans ?_ (split q).symm
                rw [a4 q, hMm q]
                refine or_congr Iff.rfl ⟨fun e => ⟨g, h, ex, ey, egh, e⟩, fun ⟨g2, h2, e1, e2, _, e⟩ => ?_⟩
                rw [ex] at e1
                rw [ey] at e2
                cases e1
                cases e2
                exact e
        · obtain ⟨⟨y6, y7, rfl⟩, sG, fG, hT0, M, hM, hMm⟩ := h
          refine ⟨⟨_, _, _, _, rfl⟩, sG, fG, M, hM, fun q => (hMm q).trans ?_⟩
          rw [take_one hp]
          constructor
          · rintro (⟨p', hp', h'⟩ | ⟨c, _, g, h', e1, e2, e3, rfl⟩)
            · exact ⟨p', List.mem_append_left _ hp', h'⟩
            · exact ⟨p, List.mem_append_right _ (List.mem_singleton.mpr rfl), List.mem_map.mpr ⟨(g, h'), gP_mem.mpr ⟨c, e1, e2, e3⟩, rfl⟩⟩
          · rintro ⟨p', hp', h'⟩
            rcases List.mem_append.mp hp' with z | z
            · exact .inl ⟨p', z, h'⟩
            · obtain rfl := List.mem_singleton.mp z
              obtain ⟨g, hg', rfl⟩ := List.mem_map.mp h'
              obtain ⟨c, e1, e2, e3⟩ := gP_mem.mp hg'
              exact .inr ⟨c, by cases c <;> decide, g.1, g.2, e1, e2, e3, rfl⟩
      · obtain ⟨⟨y2, y3, y6, y7, rfl⟩, sG, fG, M, hM, hMm⟩ := h
        refine ⟨fG, ?_⟩
        rw [hkl, List.take_length] at hMm
        have hM2 : ∀ q, q ∈ M ↔ rch (uU W.length) (gU W) (k + 1) q := fun q => (hMm q).trans ⟨fun ⟨p, hp, h⟩ => ⟨p, (hm p).mp hp, h⟩, fun ⟨p, hp, h⟩ => ⟨p, (hm p).mpr hp, h⟩⟩
        have nt : ∀ ys, G d ≠ some (.tup ys) := fun ys e => by rw [fG] at e; cases e
        have sG5 : Same H (upd G d (.dT kvl)) := same_put sG hn
        have hd5 : (upd G d (.dT kvl)) d = some (.dT kvl) := upd_same
        have M5 : DcS (upd G d (.dT kvl)) df M := ⟨hM.1.keep off_upd fun z => ddf z.symm, hM.2⟩
        generalize upd G d (.dT kvl) = G5 at sG5 hd5 M5
        obtain ⟨kvm, hv1, hv2⟩ := M5.1.len
        rw [List.length_map] at hv2
        refine ⟨_, rfl, df, kvm, rfl, hv1, _, rfl, d, kvl, rfl, hd5, rfl, _, rfl, ?_⟩
        rw [hkl, hv2]
        have sub : ∀ q, q ∈ M → q ∈ L := fun q hq => (hm q).mpr (rch_sub (fun p hp g hg => gU_in hc hg) k q ((hM2 q).mp hq))
        have hle := nd_le _ _ M5.2 sub
        by_cases c : M.length = L.length
        · rw [decide_eq_true (show V.int ((M.length : Nat) : Int) = V.int ((L.length : Nat) : Int) by rw [c])]
          have all : ∀ q, q ∈ L → q ∈ M := fun q hq => Classical.byContradiction fun z => by
            have h1 := nd_le (q :: M) L (List.nodup_cons.mpr ⟨z, M5.2⟩) fun x hx => (List.mem_cons.mp hx).elim (fun e => e ▸ hq) (sub x)
            rw [List.length_cons] at h1
            omega
          refine iteT (q none G5 (mem_srt (mem_stay (k := k) (fun q hq => (hM2 q).mp (all q ((hm q).mpr hq))) ⟨q0, (hm q0).mp hq0⟩)) sG5)
        · rw [decide_eq_false (show ¬ V.int ((M.length : Nat) : Int) = V.int ((L.length : Nat) : Int) from fun e => c (by have := V.int.inj e; omega))]
          exact iteF ⟨_, rfl, _, rfl, _, _, rfl, rfl, df, M, _, _, _, _, _, rfl, sG5, nH, M5, hM2, by omega⟩
end
end K28

set_option Elab.async false
set_option linter.all false
set_option maxRecDepth 100000
set_option maxHeartbeats 4000000
namespace K28
open PySem PySem.Spec PyProof.Rows L2 Pw TL
section
variable {P : Program} {w : World} {K : PySem.W.Frag} {mg : Str → Option Value} {base : Heap}
open LamX
/-! law -/
abbrev sLW : Stmt := topS 74
abbrev nLW : List Str := ["_law_script","_law_draw","_law_turn","_law_r","_law_pairs","_law_own","_law_word_here","_law_due"]
theorem scLW : FnScope nLW ["_law_script"] (defScope sLW) := ⟨rfl, rfl, rfl, by decide +kernel, rfl, by decide +kernel, by decide +kernel⟩
def qL : Str := (envOfC "law" (defScope sLW) 0 0 Value.none).qual ++ "<lambda>"
theorem bindsNo {f : Addr} {fd : FuncData} (F : FunD K "__init__" "Rule.__init__" (defArgs sRI) (defBody sRI) (defScope sRI) dR [] f fd) : ∃ ds, Vals dR ds ∧ Binds K fd psR ds :=
  F.binds1 1 0 (by simp) rfl (fun T kV doc pm an cdv ct us its l1 l2 => match us, its, l1, l2 with | [_], [_, _, _, _], _, _ => ⟨_, rfl, rfl⟩)
theorem bindsW {f : Addr} {fd : FuncData} (F : FunD K "__init__" "Rule.__init__" (defArgs sRI) (defBody sRI) (defScope sRI) dR [] f fd) : ∃ ds, Vals (dR.drop 1) ds ∧ Binds K fd psR ds :=
  F.binds1 2 1 (by simp) rfl (fun T kV doc pm an cdv ct us its l1 l2 => match us, its, l1, l2 with | [_, _], [_, _, _, _], _, _ => ⟨_, rfl, rfl⟩)
theorem numW_neT (i : Nat) : numW "toowide " i ≠ (Str.ofString "") := fun z => by
  have e := congrArg (fun y : Str => (tl y).length) z
  have e2 : (tl (numW "toowide " i)).length = 0 := e
  unfold numW at e2
  rw [tl_append, List.length_append] at e2
  have : (tl (Str.ofString "toowide ")).length = 8 := rfl
  omega
def wdM (W : Gr) : Str := if 40 < W.length then numW "toowide " W.length else ""
theorem lk_zz {H : Hp} {n : Nat} {r g : Addr} (h1 : H r = some (.lst [.int 0, .int 0])) (h2 : H g = some (.lst [.int 0, .int 0])) : Lk K H (n + 1) (.ref r) (.ref g) :=
  .lst (SqL.of h1) (SqL.of h2) rfl (by decide) fun i x y hx hy => by
    rw [hx] at hy
    obtain rfl := Option.some.inj hy
    rcases List.mem_cons.mp (List.mem_of_getElem? hx) with rfl | hz
    · exact .int _
    · rw [List.mem_singleton.mp hz]
      exact .int _
/-- what is due -/
def DueM (W : Gr) (v : V) : Prop := (W.length ≤ 40 ∧ ∃ o, Mem (unN W.length W.length 0) (gP W) o ∧ v = oV o) ∨ (40 < W.length ∧ v = .non)
/-- what stands between two questions -/
structure Sg (p qq : Addr) (ms : List Int) (TT : List (Addr × Str)) (R r pw : Addr) (ys : List Str) (lo : Int) (hi wd : Option Int) (g : Addr) (W : Gr) (G : Hp) : Prop where
  hdr : Dr p qq ms G
  htb : Tabs TT G
  hR : RuleAt G R r pw ys lo hi wd
  hg : GrAt G g W
section
variable {p qq : Addr} {ms : List Int} {TT : List (Addr × Str)} {R r pw : Addr} {ys : List Str} {lo : Int} {hi wd : Option Int} {g : Addr} {W : Gr} {G G' : Hp}
theorem Sg.ext (h : Sg p qq ms TT R r pw ys lo hi wd g W G) (e : ExtN G G') (tb : Tabs TT G') : Sg p qq ms TT R r pw ys lo hi wd g W G' := ⟨h.hdr.ext e, tb, h.hR.ext e, h.hg.ext e⟩
theorem Sg.same (h : Sg p qq ms TT R r pw ys lo hi wd g W G) (e : L2.Same G G') : Sg p qq ms TT R r pw ys lo hi wd g W G' := h.ext (ext_same e) (tabs_same h.htb e)
end
/-- all that the law calls -/
structure Calls (P : Program) (w : World) (K : PySem.W.Frag) (mg : Str → Option Value) (base : Heap) (R CR CW : Addr) (TT : List (Addr × Str)) : Prop where
  B : BN mg
  op : UseD P w K mg base CX0 1 "_law_open" ["_law_script"] (spOP K)
  vw : UseD P w K mg base CX0 6 "_law_any_web" ["_law_draw"] spVW
  rl : UseD P w K mg base CX0 7 "_law_rule" ["_law_r"] (spRL R)
  lm : UseD P w K mg base CX0 1 "_law_memory" ["_law_pairs"] spLM
  lk : UseD P w K mg base CX0 5 "_law_like" ["_law_found", "_law_due"] (spLK K 4)
  me : UseD P w K mg base (L2.CX P w) 8 "memory" ["rule"] (spME R CW TT)
  mkR : RMk P w K mg base R CR
def spLW (K : PySem.W.Frag) (TT : List (Addr × Str)) : Sp := fun vs H Q _ => ∃ (a : Addr) (ns : List Int), vs = [.ref a] ∧ SqL K H a (ns.map V.int) ∧ Tabs TT H ∧ ∀ H', Q (.bl true) H'
theorem ok_lw {f fW c Pt R CR C1 C2 C3 C4 C5 C6 C7 C8 : Addr} {TT : List (Addr × Str)} {dV kV doc pm ct oc dV' kV' doc' pm' cdw ct' oc' : Value} {an od an' od' : Option Addr} {osl osl' : Array (Option Value)}
    (lk : K.lookup f = some ⟨oc, od, .func (PySem.W.fnOf "law" "law" (defArgs sLW) (defBody sLW) (defScope sLW) dV kV doc pm an (.ref c) ct), osl⟩) (hcd : PySem.W.codeIn K (.ref c) "law" = true)
    (lkW : K.lookup fW = some ⟨oc', od', .func (PySem.W.fnOf "_law_why" "_law_why" (defArgs sWH) (defBody sWH) (defScope sWH) dV' kV' doc' pm' an' cdw ct'), osl'⟩) (hcW : PySem.W.codeIn K cdw "_law_why" = true) (mW : mg "_law_why" = some (.ref fW)) (kW : PySem.W.keepIn K (.ref fW) = true)
    (bW : Binds K (PySem.W.fnOf "_law_why" "_law_why" (defArgs sWH) (defBody sWH) (defScope sWH) dV' kV' doc' pm' an' cdw ct') ["_law_ask"] [])
    (TB : TabB base mg c Pt) (hTm : (Pt, qL) ∈ TT) (hTu : ∀ p ∈ TT, p.1 = Pt → p.2 = qL) (T : ClsY K mg C1 C2 C3 C4 C5 C6 C7 C8) (Z : Calls P w K mg base R CR C4 TT) :
    FnOk P w K mg base CX0 11 f (PySem.W.fnOf "law" "law" (defArgs sLW) (defBody sLW) (defScope sLW) dV kV doc pm an (.ref c) ct) ["_law_script"] (spLW K TT) := by
  obtain ⟨fOP, fdOP, GOP, opm, opk, opb⟩ := Z.op.ex
  obtain ⟨fVW, fdVW, GVW, vwm, vwk, vwb⟩ := Z.vw.ex
  obtain ⟨fRL, fdRL, GRL, rlm, rlk, rlb⟩ := Z.rl.ex
  obtain ⟨fLM, fdLM, GLM, lmm, lmk, lmb⟩ := Z.lm.ex
  obtain ⟨fLK, fdLK, GLK, lkm, lkk, lkb⟩ := Z.lk.ex
  obtain ⟨fME, fdME, GME, mem, mek, meb⟩ := Z.me.ex
  obtain ⟨fI, fdI, GI, MI, FI⟩ := Z.mkR.ex
  have mR := Z.mkR.mgR
  obtain ⟨dsN, vN, bN⟩ := bindsNo FI
  obtain ⟨dsA, vA, bA⟩ := bindsW FI
  have B := Z.B
  refine fn_of lk hcd scLW (fun vs H Q E h => ?_) (fun A outer s H vs Q E hr h => ?_)
  · obtain ⟨a, ns, rfl, _⟩ := h
    rfl
  · obtain ⟨a, ns, rfl, hS, hT, q⟩ := h
    have r1 : Room 1 _ := hr.mono (by decide)
    have r5 : Room 5 _ := hr.mono (by decide)
    have r6 : Room 6 _ := hr.mono (by decide)
    have r7 : Room 7 _ := hr.mono (by decide)
    have r8 : Room 8 _ := hr.mono (by decide)
    have whyG : ∀ X : Cx, X.K = K → X.mg = mg → GivesW X nWH "_law_why" (defScope sWH) fW cdw (defBody sWH) "_law_ask" (X.env.qual ++ "<lambda>") (TTwhy K (whyL C1 C2 C3 C4 C5 C6 C7 C8)) := fun X e1 e2 => by
      subst e1
      subst e2
      exact why_ok T
    suffices hh : ∃ t, PSs (cxOf CX0 P w K mg base nLW "law" (defScope sLW) f (.ref c) A outer s H E).nox (defBody sLW) t ∧ t { nx := fun _ H' => Q .non H', rt := Q } (L2.start nLW [.ref a]) H by
      obtain ⟨t, h1, h2⟩ := hh
      exact ⟨t, h1.nox, h2⟩
    refine ⟨_, (pss_cons (ps_set (i := 1) scLW.nd rfl (.inl rfl) (pe_call GOP r1 rfl opm opk opb .nil pass0 (pa_cons (pv 0) pa_nil)))
      (pss_cons (ps_for PassesOwn.never rfl (pi_range1 rfl B.rng (pa_cons pe_int pa_nil)) (pg_name (i := 2) scLW.nd rfl (.inl rfl))
        (pss_cons (ps_asg (pe_call GVW r6 rfl vwm vwk vwb .nil pass0 (pa_cons (pv 1) pa_nil)) (pg_tup rfl (pgs_cons (pg_name (i := 3) scLW.nd rfl (.inl rfl)) (pgs_cons (pg_name (i := 4) scLW.nd rfl (.inl rfl)) pgs_nil))))
        (pss_cons (ps_set (i := 5) scLW.nd rfl (.inr rfl) (pe_call GRL r7 rfl rlm rlk rlb .nil pass0 (pa_cons (pv 3) pa_nil)))
        (_root_.C8.pss_cut (ps_set (i := 6) scLW.nd rfl (.inl rfl) (pe_ifExp (pt_cmpR op_gt (pe_callB call_len_seq (by rfl) B.len PySem.boot_len (pa_cons (pv 4) pa_nil)) pe_int (nomark _)) (pe_op op_add_str pe_str (pe_callTy call_str_int (by rfl) B.str (by decide +kernel) (pa_cons (pe_callB call_len_seq (by rfl) B.len PySem.boot_len (pa_cons (pv 4) pa_nil)) pa_nil))) pe_str))
        (_root_.C8.pss_cut (ps_set (i := 7) scLW.nd rfl (.inl rfl) (pe_ifExp (pt_cmpR op_eq (pv 6) pe_str (nomark _)) (pe_call GLM r1 rfl lmm lmk lmb .nil pass0 (pa_cons (pv 4) pa_nil)) pe_non))
        (pss_one (ps_if (pt_not (pt_val (pe_call GLK r5 rfl lkm lkk lkb .nil pass0 (pa_cons (pe_lamW (T := TT) (k := 8) (x := "_law_why") (a := "_law_ask") rfl mW kW lkW hcW bW scWH rfl (.inl rfl) (whyG _ rfl rfl) TB rfl hTm hTu hr (lamS_by (sc := defScope sLW) (by decide +kernel)) rfl (fun _ _ _ _ _ => rfl) (fun A outer s H E f c' hr4 => pe_call GME (hr4.mono (by decide)) rfl mem mek meb .nil (passes_call (takes_of rfl rfl rfl rfl) (fun _ _ _ _ z => z)) (pa_cons (pv 5) pa_nil))) (pa_cons (pe_tup (pa_cons (pv 7) (pa_cons (pv 6) pa_nil))) pa_nil)))))
          (pss_one (ps_ret pe_bl))
          pss_nil)))))))
      (pss_one (ps_ret (pe_call GLK r5 rfl lkm lkk lkb .nil pass0 (pa_cons (pe_lst (pa_cons (pe_call GME r8 rfl mem mek meb .nil passL (pa_cons (pe_make0 MI GI r6 rfl mR bN vN passL) pa_nil)) (pa_cons (pe_call GME r8 rfl mem mek meb .nil passL (pa_cons (pe_make MI GI r6 rfl mR bA vA passL (pa_cons (pe_lst (pa_cons pe_str (pa_cons pe_str pa_nil))) pa_nil)) pa_nil)) pa_nil))) (pa_cons (pe_lst (pa_cons pe_int (pa_cons pe_int pa_nil))) pa_nil))))))), ?_⟩
    refine ⟨.ref a, rfl, a, ns, rfl, hS, fun H1 p qq ms s1 np hD1 => ?_⟩
    have hT1 := tabs_same hT s1
    refine ⟨4, rfl, by decide, by decide, for_range (lo := 0) (n := 4) (fun _ σ H2 => (∃ y2 y3 y4 y5 y6 y7, σ = [some (.ref a), some (.ref p), y2, y3, y4, y5, y6, y7]) ∧ Dr p qq ms H2 ∧ Tabs TT H2)
      ⟨⟨none, none, none, none, none, none, rfl⟩, hD1, hT1⟩ (fun i σ H2 _ h => ?_) (fun σ H2 h => ?_)⟩
    · obtain ⟨⟨y2, y3, y4, y5, y6, y7, rfl⟩, hD2, hT2⟩ := h
      obtain ⟨_, hp2⟩ := hD2.at
      refine ⟨_, rfl, p, qq, ms, rfl, hD2, fun U T' t g xs lo hi wd W H3 rd hP hg hW hw hU ng g3 => ?_⟩
      have hT3 := tabs_x hT2 hp2 g3.sx
      refine ⟨U, _, rfl, .inl (.inl hU), rfl, _, _, rfl, _, _, rfl, rfl, ?_⟩
      refine ⟨_, rfl, T', t, xs, lo, hi, wd, rfl, hP, Nat.le_trans rd.six (by decide), rd.short, rd.bad, fun r pw ys H4 s4 nr npw hR hpm hsr => ?_⟩
      have okY : RuleOk ys lo hi wd := rd.ok.perm hpm
      have hwY : WebOf (lawR ys lo hi wd) W := by rw [lawR_perm hpm]; exact hw
      have hy6 : ys.length ≤ 10 := by rw [hpm.length_eq]; exact Nat.le_trans rd.six (by decide)
      have S4 : Sg p qq ms TT R r pw ys lo hi wd g W H4 := ⟨g3.dr.same s4, tabs_same hT3 s4, hR, hg.same s4⟩
      clear hT3 hR hP hg g3 hT2 hD2 hp2 hT1 hD1 s4
      obtain ⟨ts, hts, hpr⟩ := id S4.hg
      have htl : (ts.map V.ref).length = W.length := by
        rw [List.length_map]
        exact Paired.length hpr
      refine ⟨fun σ G => σ = [some (.ref a), some (.ref p), some (.int (0 + (i : Int))), some (.ref T'), some (.ref g), some (.ref r), some (.str (wdM W)), y7] ∧ Sg p qq ms TT R r pw ys lo hi wd g W G, ?_, ?_⟩
      · refine ⟨_, rfl, g, _, rfl, .inl (SqL.of hts), _, _, rfl, rfl, _, rfl, ?_⟩
        rw [htl]
        unfold wdM
        by_cases h40 : 40 < W.length
        · rw [decide_eq_true (by omega), if_pos h40]
          refine iteT ⟨_, rfl, g, _, rfl, .inl (SqL.of hts), ?_⟩
          rw [htl]
          exact ⟨_, rfl, logS (by omega), _, _, rfl, rfl, sizeN (by omega), rfl, S4⟩
        · rw [decide_eq_false (by omega), if_neg h40]
          exact iteF ⟨rfl, S4⟩
      rintro _ H5 ⟨rfl, S5⟩
      clear S4 hts hpr htl
      refine ⟨fun σ G => ∃ v, σ = [some (.ref a), some (.ref p), some (.int (0 + (i : Int))), some (.ref T'), some (.ref g), some (.ref r), some (.str (wdM W)), some v] ∧ DueM W v ∧ Sg p qq ms TT R r pw ys lo hi wd g W G, ?_, ?_⟩
      · refine ⟨_, rfl, rfl, _, rfl, ?_⟩
        by_cases h40 : 40 < W.length
        · have e : wdM W = numW "toowide " W.length := if_pos h40
          rw [e, decide_eq_false (fun z => numW_neT _ (V.str.inj z))]
          exact iteF ⟨_, rfl, .inr ⟨h40, rfl⟩, S5⟩
        · have e : wdM W = (Str.ofString "") := if_neg h40
          rw [e, decide_eq_true (show V.str (Str.ofString "") = V.str "" from rfl)]
          exact iteT ⟨_, rfl, g, W, rfl, S5.hg, hw.closed, by omega, fun o G hM s => ⟨_, rfl, .inl ⟨by omega, o, hM, rfl⟩, S5.same s⟩⟩
      rintro _ H6 ⟨v, rfl, hv, S6⟩
      clear S5
      refine ⟨S6.htb, fun H10 e10 T10 => ?_⟩
      have S10 := S6.ext e10 T10
      rcases hv with ⟨h40, o1, ho1, rfl⟩ | ⟨hwide, rfl⟩
      · have e : wdM W = (Str.ofString "") := if_neg (by omega)
        rw [e]
        refine why_gen T (fun v G => v = oV o1 ∧ ExtN H10 G ∧ Tabs TT G) (fun e G => False) (fun fo U1 G0 v gd s01 hfo nfo => ?_) (fun fo U1 G0 e rz s01 hfo nfo => rz.elim) (fun E Q' hq he => ?_)
        · obtain ⟨rfl, eG, tG⟩ := gd
          refine ⟨_, rfl, _, rfl, by show 2 ≤ sizeLine; decide, fun U nU => ?_⟩
          have sU := same_new (o := .tup [oV o1, .str ""]) nU
          refine ⟨_, _, rfl, lk_pair (sU _ _ hfo) upd_same (lk_o _), fun G6 s6 => ⟨_, rfl, iteF ?_⟩⟩
          have S12 := ((S10.ext eG tG).same s01).same (sU.trans s6)
          exact ⟨⟨_, _, _, _, _, _, rfl⟩, S12.hdr, S12.htb⟩
        · refine ⟨_, rfl, r, pw, ys, lo, hi, wd, rfl, S10.hR, okY, hy6, (fun s e => (rd.four s e).2), T10, fun W' hw' => ?_⟩
          obtain rfl : W' = W := hw'.one hwY
          refine ⟨fun z => absurd z (by omega), fun _ o G hM eG tG => hq _ _ ⟨?_, eG, tG⟩⟩
          rw [hM.one ho1]
      · have e : wdM W = numW "toowide " W.length := if_pos hwide
        rw [e]
        refine why_gen T (fun v G => False) (fun e G => e = .wide W.length ∧ ExtN H10 G ∧ Tabs TT G) (fun fo U1 G0 v gd s01 hfo nfo => gd.elim) (fun fo U1 G0 e rz s01 hfo nfo => ?_) (fun E Q' hq he => ?_)
        · obtain ⟨rfl, eG, tG⟩ := rz
          refine ⟨_, rfl, _, rfl, by show 2 ≤ sizeLine; decide, fun U nU => ?_⟩
          have sU := same_new (o := .tup [.non, .str (numW "toowide " W.length)]) nU
          refine ⟨_, _, rfl, lk_pair (sU _ _ hfo) upd_same .non, fun G6 s6 => ⟨_, rfl, iteF ?_⟩⟩
          have S12 := ((S10.ext eG tG).same s01).same (sU.trans s6)
          exact ⟨⟨_, _, _, _, _, _, rfl⟩, S12.hdr, S12.htb⟩
        · refine ⟨_, rfl, r, pw, ys, lo, hi, wd, rfl, S10.hR, okY, hy6, (fun s e => (rd.four s e).2), T10, fun W' hw' => ?_⟩
          obtain rfl : W' = W := hw'.one hwY
          exact ⟨fun h40 d G eG tG hd => he (.wide W'.length) d G trivial ⟨rfl, eG, tG⟩ (show W'.length ≤ 100000 by omega) hd, fun z => absurd z (by omega)⟩
    · obtain ⟨⟨y2, y3, y4, y5, y6, y7, rfl⟩, hD2, hT2⟩ := h
      refine fun x dx nx nd ne => ?_
      refine ⟨x, dx, .non, [], 0, none, none, rfl, upd_same, .inl ⟨rfl, rfl⟩, by decide, (fun z hz => nomatch hz), fun hn ys pw H3 hpm hsr npw fr hR => ⟨rfl, ?_⟩, fun s e => by cases e⟩
      have s3 : Same H2 H3 := made_same nx nd fr
      have hT3 := tabs_same hT2 s3
      obtain rfl : ys = [] := List.perm_nil.mp hpm
      refine ⟨x, pw, [], 0, none, none, rfl, hR, ⟨fun z hz => (nomatch hz), fun z hz => (nomatch hz), by decide, by decide, fun h e => (nomatch e), fun s e => (nomatch e)⟩, by decide, (fun s e => nomatch e), hT3, fun W hw => ?_⟩
      obtain rfl : W = [(some 0, some 0)] := hw.one web_all
      refine ⟨fun z => absurd z (by decide), fun _ o G hM eG tG => ?_⟩
      obtain rfl : o = some 0 := hM.one mem_nil
      refine ⟨by show 2 ≤ sizeLine; decide, fun l2 nl2 => fun x2 dx2 nx2 nd2 ne2 => ?_⟩
      have s7 := same_new (o := .lst [.str "0", .str "1"]) nl2
      have sI : Same (upd G l2 (.lst [.str "0", .str "1"])) (upd (upd (upd G l2 (.lst [.str "0", .str "1"])) dx2 (.own x2)) x2 (.ins R dx2 [])) := (same_new nd2).trans (same_new (by rw [upd_ne (fun z => ne2 z.symm)]; exact nx2))
      refine ⟨x2, dx2, .ref l2, ["0", "1"], 0, none, none, rfl, upd_same, .inr ⟨l2, rfl, sI _ _ upd_same⟩, by decide, (fun z hz => ?_), fun hn ys pw2 H8 hpm2 hsr2 npw2 fr2 hR2 => ⟨rfl, ?_⟩, fun s e => ?_⟩
      · rcases List.mem_cons.mp hz with rfl | hz
        · decide
        · rw [List.mem_singleton.mp hz]
          decide
      · have s8 := s7.trans (made_same nx2 nd2 fr2)
        have rok : RuleOk ["0", "1"] 0 none none := ⟨fun z hz => ?_, fun z hz => ?_, by decide, by decide, fun h e => (nomatch e), fun s e => (nomatch e)⟩
        · have hwn : WebOf (lawR ys 0 none none) [] := by
            rw [lawR_perm hpm2]
            exact web_none rok ⟨"0", List.mem_cons_self .., rfl⟩ ⟨"1", List.mem_cons_of_mem _ (List.mem_cons_self ..), rfl⟩
          refine ⟨x2, pw2, ys, 0, none, none, rfl, hR2, rok.perm hpm2, by rw [hpm2.length_eq]; decide, (fun s e => nomatch e), tabs_same tG s8, fun W hw => ?_⟩
          obtain rfl : W = [] := hw.one hwn
          refine ⟨fun z => absurd z (by decide), fun _ o G9 hM9 eG9 tG9 => ?_⟩
          obtain rfl : o = some 0 := hM9.one mem_nil
          refine ⟨by show 2 ≤ sizeLine; decide, fun l3 nl3 => ⟨by show 2 ≤ sizeLine; decide, fun l4 nl4 => ?_⟩⟩
          have s10 := same_new (o := .lst [.int 0, .int 0]) nl4
          exact ⟨_, _, rfl, lk_zz (s10 _ _ upd_same) upd_same, fun G11 _ => q G11⟩
        · rcases List.mem_cons.mp hz with rfl | hz
          · decide
          · rw [List.mem_singleton.mp hz]
            decide
        · rcases List.mem_cons.mp hz with rfl | hz
          · decide
          · rw [List.mem_singleton.mp hz]
            decide
      · have e2 : partBad ["0", "1"] 0 none none = none := by decide +kernel
        rw [e2] at e
        cases e
end
end K28

set_option Elab.async false
set_option linter.all false
set_option maxRecDepth 100000
set_option maxHeartbeats 4000000
namespace K28
open PySem PySem.Spec PyProof.Rows L2 Pw TL
section
variable {w : World} {K : PySem.W.Frag} {mg : Str → Option Value} {base : Heap}
/-! BadRule's __init__ -/
abbrev sI2 : Stmt := inClass (topS 4) 0
theorem err_2 {C fI cc cda : Addr} {kV doc pm ct oc : Value} {an od : Option Addr} {osl : Array (Option Value)} (T : SupC PySem.Challenge.pw_pulsewright_k28_memory_of_rules K mg C fI cc cda "part")
    (lk : K.lookup fI = some ⟨oc, od, .func (PySem.W.ksFn "__init__" "BadRule.__init__" (defArgs sI2) (defBody sI2) (defScope sI2) .none kV doc pm an (.ref cda) ct cc), osl⟩) (hcd : PySem.W.codeIn K (.ref cda) "BadRule.__init__" = true)
    (gC : mg "BadRule" = some (.ref C)) (iC : PySem.W.findIn K (.ref C) "__init__" = some (some (.ref fI))) (tI : PySem.W.typeIn K (.ref fI) = some (.type "function")) :
    ErrOk PySem.Challenge.pw_pulsewright_k28_memory_of_rules w K mg base "BadRule" "part" C okStr := by
  refine ⟨T.oex, gC, fI, _, fn_sup (k := 0) (by decide) (by decide) (by decide) (by decide) (by decide) T rfl lk hcd (fun X hN hS => ?_) (fun env => rfl), Binds.all (fun us hl => match us, hl with | [_, _], _ => rfl), iC, tI⟩
  have h1 : X.N[1]? = some (Str.ofString "part") := by
    rw [hN]
    rfl
  have h2 : Vis X.env.scope (Str.ofString "part") := by
    rw [hS]
    exact .inl rfl
  refine ⟨_, pe_joined (PJ.cons pe_str (PJ.cons (pe_fmt (pe_var (i := 1) h1 h2)) PJ.nil)), fun a v H Q hv hq => ?_⟩
  obtain ⟨s, rfl, hs⟩ := hv
  refine ⟨_, rfl, by decide, _, rfl, .inl ⟨s, rfl, by rw [len_tl]; exact Nat.le_trans hs (by decide), _, rfl, ?_, hq _⟩⟩
  rw [len_tl, tl_append, List.length_append, ← len_tl]
  exact Nat.le_trans (Nat.add_le_add (by decide : _ ≤ 40) hs) (by decide)
/-! TooWide's __init__ -/
abbrev sI4 : Stmt := inClass (topS 9) 0
theorem err_4 {C fI cc cda : Addr} {kV doc pm ct oc : Value} {an od : Option Addr} {osl : Array (Option Value)} (T : SupC PySem.Challenge.pw_pulsewright_k28_memory_of_rules K mg C fI cc cda "stands")
    (lk : K.lookup fI = some ⟨oc, od, .func (PySem.W.ksFn "__init__" "TooWide.__init__" (defArgs sI4) (defBody sI4) (defScope sI4) .none kV doc pm an (.ref cda) ct cc), osl⟩) (hcd : PySem.W.codeIn K (.ref cda) "TooWide.__init__" = true)
    (gC : mg "TooWide" = some (.ref C)) (iC : PySem.W.findIn K (.ref C) "__init__" = some (some (.ref fI))) (tI : PySem.W.typeIn K (.ref fI) = some (.type "function")) :
    ErrOk PySem.Challenge.pw_pulsewright_k28_memory_of_rules w K mg base "TooWide" "stands" C okWide := by
  refine ⟨T.oex, gC, fI, _, fn_sup (k := 0) (by decide) (by decide) (by decide) (by decide) (by decide) T rfl lk hcd (fun X hN hS => ?_) (fun env => rfl), Binds.all (fun us hl => match us, hl with | [_, _], _ => rfl), iC, tI⟩
  have h1 : X.N[1]? = some (Str.ofString "stands") := by
    rw [hN]
    rfl
  have h2 : Vis X.env.scope (Str.ofString "stands") := by
    rw [hS]
    exact .inl rfl
  refine ⟨_, pe_joined (PJ.cons pe_str (PJ.cons (pe_fmt (pe_var (i := 1) h1 h2)) PJ.nil)), fun a v H Q hv hq => ?_⟩
  obtain ⟨i, rfl, hi⟩ := hv
  refine ⟨_, rfl, by decide, _, rfl, .inr ⟨(i : Int), rfl, logS hi, _, rfl, ?_, hq _⟩⟩
  rw [len_tl, tl_append, List.length_append, ← len_tl, ← len_tl]
  exact Nat.le_trans (Nat.add_le_add (by decide : _ ≤ 40) (int_text_len_1921 (logS hi))) (by decide)
theorem exm_of {K : PySem.W.Frag} {S c : Addr} {b : Bool} (h1 : PySem.W.subIn K (.ref c) (.type "BaseException") = some true) (h2 : PySem.W.isClsIn K c = true) (h3 : PySem.W.typeIn K (.ref c) = some (.type "type")) (h4 : PySem.W.subIn K (.ref S) (.ref c) = some b) : PySem.W.exmOne K (.ref S) (.ref c) = some b := by
  have a1 : (PySem.W.subIn K (.ref c) (.type "BaseException") == some true) = true := by rw [h1] <;> rfl
  have a2 : ((PySem.W.clsIn K c).isSome && PySem.W.typeIn K (.ref c) == some (.type "type")) = true := by
    have a3 : (PySem.W.clsIn K c).isSome = true := h2
    rw [a3, h3] <;> rfl
  unfold PySem.W.exmOne
  first
    | (rw [if_pos a1]; show (if ((PySem.W.clsIn K c).isSome && PySem.W.typeIn K (.ref c) == some (.type "type")) = true then PySem.W.subIn K (.ref S) (.ref c) else none) = some b; rw [if_pos a2]; exact h4)
    | simp [a1, a2, h4]
end
theorem all_mk {w : World} {K : PySem.W.Frag} {h : Heap} {mg : Str → Option Value} {fa : Addr} (X : K.In h) (G : h.Ns mainGlobals mg) (hfa : mg "law" = some (.ref fa))
    {fFS fIW fAW fCP fBG fLE fSG fTA fNB fLP fWD2 fLG2 fWW fWB fLG fLO fBW fLY2 fMO2 fME fOP fPU fNU fLK fRO fSU fLA fKY fRA fAL fKI fLB fWD fWS fPA fRL fWH fVW fLM fLW fBP fMS fRI R Td cLW PtLW cLP PtLP cWW PtWW C1 C2 C3 C4 C5 C6 C7 C8 gI2 cc2 cda2 Ne2 gI4 cc4 cda4 Ne4 : Addr}
    {odFS anFS odIW anIW odAW anAW odCP anCP odBG anBG odLE anLE odSG anSG odTA anTA odNB anNB odLP anLP odWD2 anWD2 odLG2 anLG2 odWW anWW odWB anWB odLG anLG odLO anLO odBW anBW odLY2 anLY2 odMO2 anMO2 odME anME odOP anOP odPU anPU odNU anNU odLK anLK odRO anRO odSU anSU odLA anLA odKY anKY odRA anRA odAL anAL odKI anKI odLB anLB odWD anWD odWS anWS odPA anPA odRL anRL odWH anWH odVW anVW odLM anLM odLW anLW odBP anBP odMS anMS odRI anRI odT odI2 anI2 cdd2 cld2 dd2 odI4 anI4 cdd4 cld4 dd4 : Option Addr} {slFS slIW slAW slCP slBG slLE slSG slTA slNB slLP slWD2 slLG2 slWW slWB slLG slLO slBW slLY2 slMO2 slME slOP slPU slNU slLK slRO slSU slLA slKY slRA slAL slKI slLB slWD slWS slPA slRL slWH slVW slLM slLW slBP slMS slRI slT slI2 ccs2 csl2 slI4 ccs4 csl4 : Array (Option Value)}
    {ocFS kVFS dcFS pmFS ctFS ocIW kVIW dcIW pmIW ctIW ocAW kVAW dcAW pmAW ctAW ocCP kVCP dcCP pmCP ctCP ocBG kVBG dcBG pmBG ctBG ocLE kVLE dcLE pmLE ctLE ocSG kVSG dcSG pmSG ctSG ocTA kVTA dcTA pmTA ctTA ocNB kVNB dcNB pmNB ctNB ocLP kVLP dcLP pmLP ctLP ocWD2 kVWD2 dcWD2 pmWD2 ctWD2 ocLG2 kVLG2 dcLG2 pmLG2 ctLG2 ocWW kVWW dcWW pmWW ctWW ocWB kVWB dcWB pmWB ctWB ocLG kVLG dcLG pmLG ctLG ocLO kVLO dcLO pmLO ctLO ocBW kVBW dcBW pmBW ctBW ocLY2 kVLY2 dcLY2 pmLY2 ctLY2 ocMO2 kVMO2 dcMO2 pmMO2 ctMO2 ocME kVME dcME pmME ctME ocOP kVOP dcOP pmOP ctOP ocPU kVPU dcPU pmPU ctPU ocNU kVNU dcNU pmNU ctNU ocLK kVLK dcLK pmLK ctLK ocRO kVRO dcRO pmRO ctRO ocSU kVSU dcSU pmSU ctSU ocLA kVLA dcLA pmLA ctLA ocKY kVKY dcKY pmKY ctKY ocRA kVRA dcRA pmRA ctRA ocAL kVAL dcAL pmAL ctAL ocKI kVKI dcKI pmKI ctKI ocLB kVLB dcLB pmLB ctLB ocWD kVWD dcWD pmWD ctWD ocWS kVWS dcWS pmWS ctWS ocPA kVPA dcPA pmPA ctPA ocRL kVRL dcRL pmRL ctRL ocWH kVWH dcWH pmWH ctWH ocVW kVVW dcVW pmVW ctVW ocLM kVLM dcLM pmLM ctLM ocLW kVLW dcLW pmLW ctLW ocBP kVBP dcBP pmBP ctBP ocMS kVMS dcMS pmMS ctMS ocRI kVRI dcRI pmRI ctRI cdFS cdIW cdAW cdCP cdBG cdLE cdSG cdTA cdNB cdWD2 cdLG2 cdWB cdLG cdLO cdBW cdLY2 cdMO2 cdME cdOP cdPU cdNU cdLK cdRO cdSU cdLA cdKY cdRA cdAL cdKI cdLB cdWD cdWS cdPA cdRL cdWH cdVW cdLM cdBP cdMS cdRI ocT ocI2 kVI2 dcI2 pmI2 ctI2 ccl2 cl2 ocI4 kVI4 dcI4 pmI4 ctI4 ccl4 cl4 : Value}
    {nm2 q2 file2 nm4 q4 file4 : Str} {bs2 bm2 sub2 bs4 bm4 sub4 : List Value} {sn2 sn4 : List Str} {ab2 ab4 : Bool} {col2 col4 : Option Bool} {k02 k12 k22 k32 k52 k04 k14 k24 k34 k54 : Option Value} {vsc2 vsc4 : Array Value} {tf2 tf4 tk0 tk1 tk2 tk3 tk4 tk5 : Tok} {nT : Nat} {aDE : Addr} {odDE : Option Addr} {nDEn : Nat} {slDE : Array (Option Value)} {tkMS : Tok}
    (aFS : PySem.W.nsIn K mainGlobals "first_stranger" = some (some (.ref fFS)))
    (lFS : K.lookup fFS = some ⟨ocFS, odFS, .func (PySem.W.fnOf "first_stranger" "first_stranger" (defArgs sFS) (defBody sFS) (defScope sFS) .none kVFS dcFS pmFS anFS cdFS ctFS), slFS⟩)
    (cFS : PySem.W.codeIn K cdFS "first_stranger" = true)
    (kFS : PySem.W.keepIn K (.ref fFS) = true)
    (aIW : PySem.W.nsIn K mainGlobals "is_word" = some (some (.ref fIW)))
    (lIW : K.lookup fIW = some ⟨ocIW, odIW, .func (PySem.W.fnOf "is_word" "is_word" (defArgs sIW) (defBody sIW) (defScope sIW) .none kVIW dcIW pmIW anIW cdIW ctIW), slIW⟩)
    (cIW : PySem.W.codeIn K cdIW "is_word" = true)
    (kIW : PySem.W.keepIn K (.ref fIW) = true)
    (aAW : PySem.W.nsIn K mainGlobals "are_words" = some (some (.ref fAW)))
    (lAW : K.lookup fAW = some ⟨ocAW, odAW, .func (PySem.W.fnOf "are_words" "are_words" (defArgs sAW) (defBody sAW) (defScope sAW) .none kVAW dcAW pmAW anAW cdAW ctAW), slAW⟩)
    (cAW : PySem.W.codeIn K cdAW "are_words" = true)
    (kAW : PySem.W.keepIn K (.ref fAW) = true)
    (aCP : PySem.W.nsIn K mainGlobals "check_parts" = some (some (.ref fCP)))
    (lCP : K.lookup fCP = some ⟨ocCP, odCP, .func (PySem.W.fnOf "check_parts" "check_parts" (defArgs sCP) (defBody sCP) (defScope sCP) .none kVCP dcCP pmCP anCP cdCP ctCP), slCP⟩)
    (cCP : PySem.W.codeIn K cdCP "check_parts" = true)
    (kCP : PySem.W.keepIn K (.ref fCP) = true)
    (aBG : PySem.W.nsIn K mainGlobals "beginnings" = some (some (.ref fBG)))
    (lBG : K.lookup fBG = some ⟨ocBG, odBG, .func (PySem.W.fnOf "beginnings" "beginnings" (defArgs sBG) (defBody sBG) (defScope sBG) .none kVBG dcBG pmBG anBG cdBG ctBG), slBG⟩)
    (cBG : PySem.W.codeIn K cdBG "beginnings" = true)
    (kBG : PySem.W.keepIn K (.ref fBG) = true)
    (aLE : PySem.W.nsIn K mainGlobals "longest_end" = some (some (.ref fLE)))
    (lLE : K.lookup fLE = some ⟨ocLE, odLE, .func (PySem.W.fnOf "longest_end" "longest_end" (defArgs sLE) (defBody sLE) (defScope sLE) .none kVLE dcLE pmLE anLE cdLE ctLE), slLE⟩)
    (cLE : PySem.W.codeIn K cdLE "longest_end" = true)
    (kLE : PySem.W.keepIn K (.ref fLE) = true)
    (aSG : PySem.W.nsIn K mainGlobals "swung" = some (some (.ref fSG)))
    (lSG : K.lookup fSG = some ⟨ocSG, odSG, .func (PySem.W.fnOf "swung" "swung" (defArgs sSG) (defBody sSG) (defScope sSG) .none kVSG dcSG pmSG anSG cdSG ctSG), slSG⟩)
    (cSG : PySem.W.codeIn K cdSG "swung" = true)
    (kSG : PySem.W.keepIn K (.ref fSG) = true)
    (aTA : PySem.W.nsIn K mainGlobals "trace_after" = some (some (.ref fTA)))
    (lTA : K.lookup fTA = some ⟨ocTA, odTA, .func (PySem.W.fnOf "trace_after" "trace_after" (defArgs sTA) (defBody sTA) (defScope sTA) .none kVTA dcTA pmTA anTA cdTA ctTA), slTA⟩)
    (cTA : PySem.W.codeIn K cdTA "trace_after" = true)
    (kTA : PySem.W.keepIn K (.ref fTA) = true)
    (aNB : PySem.W.nsIn K mainGlobals "numbered" = some (some (.ref fNB)))
    (lNB : K.lookup fNB = some ⟨ocNB, odNB, .func (PySem.W.fnOf "numbered" "numbered" (defArgs sNB) (defBody sNB) (defScope sNB) .none kVNB dcNB pmNB anNB cdNB ctNB), slNB⟩)
    (cNB : PySem.W.codeIn K cdNB "numbered" = true)
    (kNB : PySem.W.keepIn K (.ref fNB) = true)
    (aLP : PySem.W.nsIn K mainGlobals "lawful_pairs" = some (some (.ref fLP)))
    (lLP : K.lookup fLP = some ⟨ocLP, odLP, .func (PySem.W.fnOf "lawful_pairs" "lawful_pairs" (defArgs sLP) (defBody sLP) (defScope sLP) .none kVLP dcLP pmLP anLP (.ref cLP) ctLP), slLP⟩)
    (cLP2 : PySem.W.codeIn K (.ref cLP) "lawful_pairs" = true)
    (kLP : PySem.W.keepIn K (.ref fLP) = true)
    (aWD2 : PySem.W.nsIn K mainGlobals "without_dead_ends" = some (some (.ref fWD2)))
    (lWD2 : K.lookup fWD2 = some ⟨ocWD2, odWD2, .func (PySem.W.fnOf "without_dead_ends" "without_dead_ends" (defArgs sWD2) (defBody sWD2) (defScope sWD2) .none kVWD2 dcWD2 pmWD2 anWD2 cdWD2 ctWD2), slWD2⟩)
    (cWD2 : PySem.W.codeIn K cdWD2 "without_dead_ends" = true)
    (kWD2 : PySem.W.keepIn K (.ref fWD2) = true)
    (aLG2 : PySem.W.nsIn K mainGlobals "like_groups" = some (some (.ref fLG2)))
    (lLG2 : K.lookup fLG2 = some ⟨ocLG2, odLG2, .func (PySem.W.fnOf "like_groups" "like_groups" (defArgs sLG2) (defBody sLG2) (defScope sLG2) .none kVLG2 dcLG2 pmLG2 anLG2 cdLG2 ctLG2), slLG2⟩)
    (cLG2 : PySem.W.codeIn K cdLG2 "like_groups" = true)
    (kLG2 : PySem.W.keepIn K (.ref fLG2) = true)
    (aWW : PySem.W.nsIn K mainGlobals "whole_web" = some (some (.ref fWW)))
    (lWW : K.lookup fWW = some ⟨ocWW, odWW, .func (PySem.W.fnOf "whole_web" "whole_web" (defArgs sWW) (defBody sWW) (defScope sWW) .none kVWW dcWW pmWW anWW (.ref cWW) ctWW), slWW⟩)
    (cWW2 : PySem.W.codeIn K (.ref cWW) "whole_web" = true)
    (kWW : PySem.W.keepIn K (.ref fWW) = true)
    (aWB : PySem.W.nsIn K mainGlobals "web" = some (some (.ref fWB)))
    (lWB : K.lookup fWB = some ⟨ocWB, odWB, .func (PySem.W.fnOf "web" "web" (defArgs sWB) (defBody sWB) (defScope sWB) .none kVWB dcWB pmWB anWB cdWB ctWB), slWB⟩)
    (cWB : PySem.W.codeIn K cdWB "web" = true)
    (kWB : PySem.W.keepIn K (.ref fWB) = true)
    (aLG : PySem.W.nsIn K mainGlobals "longest_lengths" = some (some (.ref fLG)))
    (lLG : K.lookup fLG = some ⟨ocLG, odLG, .func (PySem.W.fnOf "longest_lengths" "longest_lengths" (defArgs sLG) (defBody sLG) (defScope sLG) .none kVLG dcLG pmLG anLG cdLG ctLG), slLG⟩)
    (cLG : PySem.W.codeIn K cdLG "longest_lengths" = true)
    (kLG : PySem.W.keepIn K (.ref fLG) = true)
    (aLO : PySem.W.nsIn K mainGlobals "longest" = some (some (.ref fLO)))
    (lLO : K.lookup fLO = some ⟨ocLO, odLO, .func (PySem.W.fnOf "longest" "longest" (defArgs sLO) (defBody sLO) (defScope sLO) .none kVLO dcLO pmLO anLO cdLO ctLO), slLO⟩)
    (cLO : PySem.W.codeIn K cdLO "longest" = true)
    (kLO : PySem.W.keepIn K (.ref fLO) = true)
    (aBW : PySem.W.nsIn K mainGlobals "blurred_ways" = some (some (.ref fBW)))
    (lBW : K.lookup fBW = some ⟨ocBW, odBW, .func (PySem.W.fnOf "blurred_ways" "blurred_ways" (defArgs sBW) (defBody sBW) (defScope sBW) .none kVBW dcBW pmBW anBW cdBW ctBW), slBW⟩)
    (cBW : PySem.W.codeIn K cdBW "blurred_ways" = true)
    (kBW : PySem.W.keepIn K (.ref fBW) = true)
    (aLY2 : PySem.W.nsIn K mainGlobals "least_beyond" = some (some (.ref fLY2)))
    (lLY2 : K.lookup fLY2 = some ⟨ocLY2, odLY2, .func (PySem.W.fnOf "least_beyond" "least_beyond" (defArgs sLY2) (defBody sLY2) (defScope sLY2) .none kVLY2 dcLY2 pmLY2 anLY2 cdLY2 ctLY2), slLY2⟩)
    (cLY2 : PySem.W.codeIn K cdLY2 "least_beyond" = true)
    (kLY2 : PySem.W.keepIn K (.ref fLY2) = true)
    (aMO2 : PySem.W.nsIn K mainGlobals "memory_of" = some (some (.ref fMO2)))
    (lMO2 : K.lookup fMO2 = some ⟨ocMO2, odMO2, .func (PySem.W.fnOf "memory_of" "memory_of" (defArgs sMO2) (defBody sMO2) (defScope sMO2) .none kVMO2 dcMO2 pmMO2 anMO2 cdMO2 ctMO2), slMO2⟩)
    (cMO2 : PySem.W.codeIn K cdMO2 "memory_of" = true)
    (kMO2 : PySem.W.keepIn K (.ref fMO2) = true)
    (aME : PySem.W.nsIn K mainGlobals "memory" = some (some (.ref fME)))
    (lME : K.lookup fME = some ⟨ocME, odME, .func (PySem.W.fnOf "memory" "memory" (defArgs sME) (defBody sME) (defScope sME) .none kVME dcME pmME anME cdME ctME), slME⟩)
    (cME : PySem.W.codeIn K cdME "memory" = true)
    (kME : PySem.W.keepIn K (.ref fME) = true)
    (aOP : PySem.W.nsIn K mainGlobals "_law_open" = some (some (.ref fOP)))
    (lOP : K.lookup fOP = some ⟨ocOP, odOP, .func (PySem.W.fnOf "_law_open" "_law_open" (defArgs sOP) (defBody sOP) (defScope sOP) .none kVOP dcOP pmOP anOP cdOP ctOP), slOP⟩)
    (cOP : PySem.W.codeIn K cdOP "_law_open" = true)
    (kOP : PySem.W.keepIn K (.ref fOP) = true)
    (aPU : PySem.W.nsIn K mainGlobals "_law_pull" = some (some (.ref fPU)))
    (lPU : K.lookup fPU = some ⟨ocPU, odPU, .func (PySem.W.fnOf "_law_pull" "_law_pull" (defArgs sPU) (defBody sPU) (defScope sPU) .none kVPU dcPU pmPU anPU cdPU ctPU), slPU⟩)
    (cPU : PySem.W.codeIn K cdPU "_law_pull" = true)
    (kPU : PySem.W.keepIn K (.ref fPU) = true)
    (aNU : PySem.W.nsIn K mainGlobals "_law_num" = some (some (.ref fNU)))
    (lNU : K.lookup fNU = some ⟨ocNU, odNU, .func (PySem.W.fnOf "_law_num" "_law_num" (defArgs sNU) (defBody sNU) (defScope sNU) .none kVNU dcNU pmNU anNU cdNU ctNU), slNU⟩)
    (cNU : PySem.W.codeIn K cdNU "_law_num" = true)
    (kNU : PySem.W.keepIn K (.ref fNU) = true)
    (aLK : PySem.W.nsIn K mainGlobals "_law_like" = some (some (.ref fLK)))
    (lLK : K.lookup fLK = some ⟨ocLK, odLK, .func (PySem.W.fnOf "_law_like" "_law_like" (defArgs sLK) (defBody sLK) (defScope sLK) .none kVLK dcLK pmLK anLK cdLK ctLK), slLK⟩)
    (cLK : PySem.W.codeIn K cdLK "_law_like" = true)
    (kLK : PySem.W.keepIn K (.ref fLK) = true)
    (aRO : PySem.W.nsIn K mainGlobals "_law_row" = some (some (.ref fRO)))
    (lRO : K.lookup fRO = some ⟨ocRO, odRO, .func (PySem.W.fnOf "_law_row" "_law_row" (defArgs sRO) (defBody sRO) (defScope sRO) .none kVRO dcRO pmRO anRO cdRO ctRO), slRO⟩)
    (cRO : PySem.W.codeIn K cdRO "_law_row" = true)
    (kRO : PySem.W.keepIn K (.ref fRO) = true)
    (aSU : PySem.W.nsIn K mainGlobals "_law_sums" = some (some (.ref fSU)))
    (lSU : K.lookup fSU = some ⟨ocSU, odSU, .func (PySem.W.fnOf "_law_sums" "_law_sums" (defArgs sSU) (defBody sSU) (defScope sSU) .none kVSU dcSU pmSU anSU cdSU ctSU), slSU⟩)
    (cSU : PySem.W.codeIn K cdSU "_law_sums" = true)
    (kSU : PySem.W.keepIn K (.ref fSU) = true)
    (aLA : PySem.W.nsIn K mainGlobals "_law_lawful" = some (some (.ref fLA)))
    (lLA : K.lookup fLA = some ⟨ocLA, odLA, .func (PySem.W.fnOf "_law_lawful" "_law_lawful" (defArgs sLA) (defBody sLA) (defScope sLA) .none kVLA dcLA pmLA anLA cdLA ctLA), slLA⟩)
    (cLA : PySem.W.codeIn K cdLA "_law_lawful" = true)
    (kLA : PySem.W.keepIn K (.ref fLA) = true)
    (aKY : PySem.W.nsIn K mainGlobals "_law_key" = some (some (.ref fKY)))
    (lKY : K.lookup fKY = some ⟨ocKY, odKY, .func (PySem.W.fnOf "_law_key" "_law_key" (defArgs sKY) (defBody sKY) (defScope sKY) .none kVKY dcKY pmKY anKY cdKY ctKY), slKY⟩)
    (cKY : PySem.W.codeIn K cdKY "_law_key" = true)
    (kKY : PySem.W.keepIn K (.ref fKY) = true)
    (aRA : PySem.W.nsIn K mainGlobals "_law_raw" = some (some (.ref fRA)))
    (lRA : K.lookup fRA = some ⟨ocRA, odRA, .func (PySem.W.fnOf "_law_raw" "_law_raw" (defArgs sRA) (defBody sRA) (defScope sRA) .none kVRA dcRA pmRA anRA cdRA ctRA), slRA⟩)
    (cRA : PySem.W.codeIn K cdRA "_law_raw" = true)
    (kRA : PySem.W.keepIn K (.ref fRA) = true)
    (aAL : PySem.W.nsIn K mainGlobals "_law_alive" = some (some (.ref fAL)))
    (lAL : K.lookup fAL = some ⟨ocAL, odAL, .func (PySem.W.fnOf "_law_alive" "_law_alive" (defArgs sAL) (defBody sAL) (defScope sAL) .none kVAL dcAL pmAL anAL cdAL ctAL), slAL⟩)
    (cAL : PySem.W.codeIn K cdAL "_law_alive" = true)
    (kAL : PySem.W.keepIn K (.ref fAL) = true)
    (aKI : PySem.W.nsIn K mainGlobals "_law_kinds" = some (some (.ref fKI)))
    (lKI : K.lookup fKI = some ⟨ocKI, odKI, .func (PySem.W.fnOf "_law_kinds" "_law_kinds" (defArgs sKI) (defBody sKI) (defScope sKI) .none kVKI dcKI pmKI anKI cdKI ctKI), slKI⟩)
    (cKI : PySem.W.codeIn K cdKI "_law_kinds" = true)
    (kKI : PySem.W.keepIn K (.ref fKI) = true)
    (aLB : PySem.W.nsIn K mainGlobals "_law_web" = some (some (.ref fLB)))
    (lLB : K.lookup fLB = some ⟨ocLB, odLB, .func (PySem.W.fnOf "_law_web" "_law_web" (defArgs sLB) (defBody sLB) (defScope sLB) .none kVLB dcLB pmLB anLB cdLB ctLB), slLB⟩)
    (cLB : PySem.W.codeIn K cdLB "_law_web" = true)
    (kLB : PySem.W.keepIn K (.ref fLB) = true)
    (aWD : PySem.W.nsIn K mainGlobals "_law_word" = some (some (.ref fWD)))
    (lWD : K.lookup fWD = some ⟨ocWD, odWD, .func (PySem.W.fnOf "_law_word" "_law_word" (defArgs sWD) (defBody sWD) (defScope sWD) .none kVWD dcWD pmWD anWD cdWD ctWD), slWD⟩)
    (cWD : PySem.W.codeIn K cdWD "_law_word" = true)
    (kWD : PySem.W.keepIn K (.ref fWD) = true)
    (aWS : PySem.W.nsIn K mainGlobals "_law_words" = some (some (.ref fWS)))
    (lWS : K.lookup fWS = some ⟨ocWS, odWS, .func (PySem.W.fnOf "_law_words" "_law_words" (defArgs sWS) (defBody sWS) (defScope sWS) .none kVWS dcWS pmWS anWS cdWS ctWS), slWS⟩)
    (cWS : PySem.W.codeIn K cdWS "_law_words" = true)
    (kWS : PySem.W.keepIn K (.ref fWS) = true)
    (aPA : PySem.W.nsIn K mainGlobals "_law_parts" = some (some (.ref fPA)))
    (lPA : K.lookup fPA = some ⟨ocPA, odPA, .func (PySem.W.fnOf "_law_parts" "_law_parts" (defArgs sPA) (defBody sPA) (defScope sPA) .none kVPA dcPA pmPA anPA cdPA ctPA), slPA⟩)
    (cPA : PySem.W.codeIn K cdPA "_law_parts" = true)
    (kPA : PySem.W.keepIn K (.ref fPA) = true)
    (aRL : PySem.W.nsIn K mainGlobals "_law_rule" = some (some (.ref fRL)))
    (lRL : K.lookup fRL = some ⟨ocRL, odRL, .func (PySem.W.fnOf "_law_rule" "_law_rule" (defArgs sRL) (defBody sRL) (defScope sRL) .none kVRL dcRL pmRL anRL cdRL ctRL), slRL⟩)
    (cRL : PySem.W.codeIn K cdRL "_law_rule" = true)
    (kRL : PySem.W.keepIn K (.ref fRL) = true)
    (aWH : PySem.W.nsIn K mainGlobals "_law_why" = some (some (.ref fWH)))
    (lWH : K.lookup fWH = some ⟨ocWH, odWH, .func (PySem.W.fnOf "_law_why" "_law_why" (defArgs sWH) (defBody sWH) (defScope sWH) .none kVWH dcWH pmWH anWH cdWH ctWH), slWH⟩)
    (cWH : PySem.W.codeIn K cdWH "_law_why" = true)
    (kWH : PySem.W.keepIn K (.ref fWH) = true)
    (aVW : PySem.W.nsIn K mainGlobals "_law_any_web" = some (some (.ref fVW)))
    (lVW : K.lookup fVW = some ⟨ocVW, odVW, .func (PySem.W.fnOf "_law_any_web" "_law_any_web" (defArgs sVW) (defBody sVW) (defScope sVW) .none kVVW dcVW pmVW anVW cdVW ctVW), slVW⟩)
    (cVW : PySem.W.codeIn K cdVW "_law_any_web" = true)
    (kVW : PySem.W.keepIn K (.ref fVW) = true)
    (aLM : PySem.W.nsIn K mainGlobals "_law_memory" = some (some (.ref fLM)))
    (lLM : K.lookup fLM = some ⟨ocLM, odLM, .func (PySem.W.fnOf "_law_memory" "_law_memory" (defArgs sLM) (defBody sLM) (defScope sLM) .none kVLM dcLM pmLM anLM cdLM ctLM), slLM⟩)
    (cLM : PySem.W.codeIn K cdLM "_law_memory" = true)
    (kLM : PySem.W.keepIn K (.ref fLM) = true)
    (aLW : PySem.W.nsIn K mainGlobals "law" = some (some (.ref fLW)))
    (lLW : K.lookup fLW = some ⟨ocLW, odLW, .func (PySem.W.fnOf "law" "law" (defArgs sLW) (defBody sLW) (defScope sLW) .none kVLW dcLW pmLW anLW (.ref cLW) ctLW), slLW⟩)
    (cLW2 : PySem.W.codeIn K (.ref cLW) "law" = true)
    (kLW : PySem.W.keepIn K (.ref fLW) = true)
    (z_isi : PySem.W.nsIn K mainGlobals "isinstance" = some none)
    (z_int : PySem.W.nsIn K mainGlobals "int" = some none)
    (z_bool : PySem.W.nsIn K mainGlobals "bool" = some none)
    (z_str : PySem.W.nsIn K mainGlobals "str" = some none)
    (z_tup : PySem.W.nsIn K mainGlobals "tuple" = some none)
    (z_lst : PySem.W.nsIn K mainGlobals "list" = some none)
    (z_len : PySem.W.nsIn K mainGlobals "len" = some none)
    (z_all : PySem.W.nsIn K mainGlobals "all" = some none)
    (z_rng : PySem.W.nsIn K mainGlobals "range" = some none)
    (z_max : PySem.W.nsIn K mainGlobals "max" = some none)
    (z_min : PySem.W.nsIn K mainGlobals "min" = some none)
    (z_abs : PySem.W.nsIn K mainGlobals "abs" = some none)
    (z_enu : PySem.W.nsIn K mainGlobals "enumerate" = some none)
    (z_sup : PySem.W.nsIn K mainGlobals "super" = some none)
    (z_set : PySem.W.nsIn K mainGlobals "set" = some none)
    (z_srt : PySem.W.nsIn K mainGlobals "sorted" = some none)
    (z_any : PySem.W.nsIn K mainGlobals "any" = some none)
    (z_zip : PySem.W.nsIn K mainGlobals "zip" = some none)
    (z_sum : PySem.W.nsIn K mainGlobals "sum" = some none)
    (n1 : PySem.W.nsIn K mainGlobals "MOST_WORDS" = some (some (.int 6 tk1)))
    (n2 : PySem.W.nsIn K mainGlobals "LONGEST_WORD" = some (some (.int 5 tk2)))
    (n3 : PySem.W.nsIn K mainGlobals "GREATEST_LOW" = some (some (.int 3 tk3)))
    (n4 : PySem.W.nsIn K mainGlobals "GREATEST_HIGH" = some (some (.int 7 tk4)))
    (n5 : PySem.W.nsIn K mainGlobals "GREATEST_SPAN" = some (some (.int 4 tk5)))
    (aR : PySem.W.nsIn K mainGlobals "Rule" = some (some (.ref R)))
    (f_BP : PySem.W.findIn K (.ref R) "barred_pieces" = some (some (.ref fBP)))
    (lBP : K.lookup fBP = some ⟨ocBP, odBP, .func (PySem.W.fnOf "barred_pieces" "Rule.barred_pieces" (defArgs sBP) (defBody sBP) (defScope sBP) .none kVBP dcBP pmBP anBP cdBP ctBP), slBP⟩)
    (cBP : PySem.W.codeIn K cdBP "Rule.barred_pieces" = true)
    (i_BP : PySem.W.isFn K (.ref fBP) = true)
    (kBP : PySem.W.keepIn K (.ref fBP) = true)
    (f_MS : PySem.W.findIn K (.ref R) "span" = some (some (.ref fMS)))
    (lMS : K.lookup fMS = some ⟨ocMS, odMS, .func (PySem.W.fnOf "span" "Rule.span" (defArgs sMS) (defBody sMS) (defScope sMS) .none kVMS dcMS pmMS anMS cdMS ctMS), slMS⟩)
    (cMS : PySem.W.codeIn K cdMS "Rule.span" = true)
    (i_MS : PySem.W.isFn K (.ref fMS) = true)
    (kMS : PySem.W.keepIn K (.ref fMS) = true)
    (f_RI : PySem.W.findIn K (.ref R) "__init__" = some (some (.ref fRI)))
    (lRI : K.lookup fRI = some ⟨ocRI, odRI, .func (PySem.W.fnOf "__init__" "Rule.__init__" (defArgs sRI) (defBody sRI) (defScope sRI) (.ref Td) kVRI dcRI pmRI anRI cdRI ctRI), slRI⟩)
    (cRI : PySem.W.codeIn K cdRI "Rule.__init__" = true)
    (i_RI : PySem.W.isFn K (.ref fRI) = true)
    (kRI : PySem.W.keepIn K (.ref fRI) = true)
    (lTd : K.lookup Td = some ⟨ocT, odT, .seq #[.none, .int 0 tk0, .none, .none] nT, slT⟩)
    (mkR : PySem.W.makesIn K R = true)
    (kR : PySem.W.keepIn K (.ref R) = true)
    (pgR : PySem.W.plainGet K R Str.empty = true)
    (hdR : PySem.W.hasDictIn K R = true)
    (poR : PySem.W.plainOver K R = true)
    (saR : PySem.W.findIn K (.ref R) "__setattr__" = some (some (.builtin "object.__setattr__")))
    (na1 : PySem.W.findIn K (.ref R) "barred" = some none)
    (na2 : PySem.W.findIn K (.ref R) "least_gap" = some none)
    (na3 : PySem.W.findIn K (.ref R) "most_idle" = some none)
    (na4 : PySem.W.findIn K (.ref R) "most_swing" = some none)
    (aC1 : PySem.W.nsIn K mainGlobals "BadRow" = some (some (.ref C1)))
    (eC1 : PySem.W.subIn K (.ref C1) (.type "BaseException") = some true)
    (tC1 : PySem.W.typeIn K (.ref C1) = some (.type "type"))
    (iC1 : PySem.W.isClsIn K C1 = true)
    (aC2 : PySem.W.nsIn K mainGlobals "BadRule" = some (some (.ref C2)))
    (eC2 : PySem.W.subIn K (.ref C2) (.type "BaseException") = some true)
    (tC2 : PySem.W.typeIn K (.ref C2) = some (.type "type"))
    (iC2 : PySem.W.isClsIn K C2 = true)
    (xC2 : K.lookup C2 = some (excClassObj nm2 q2 C2 Ne2 bs2 bm2 true sn2 sub2 ab2 col2 dd2 k02 k12 k22 k32 k52 "ValueError.__new__"))
    (xbC2 : PySem.HandSPX.refsVE bm2 = true)
    (saC2 : PySem.W.findIn K (.ref C2) "__setattr__" = some (some (.builtin "object.__setattr__")))
    (natC2 : PySem.W.findIn K (.ref C2) "part" = some none)
    (vC2 : PySem.W.subIn K (.ref C2) (.type "ValueError") = some true)
    (mC2 : PySem.W.mroIn K C2 (.ref C2) = some true)
    (kC2 : PySem.W.keepIn K (.ref C2) = true)
    (aIC2 : PySem.W.findIn K (.ref C2) "__init__" = some (some (.ref gI2)))
    (tIC2 : PySem.W.typeIn K (.ref gI2) = some (.type "function"))
    (lIC2 : K.lookup gI2 = some ⟨ocI2, odI2, .func (PySem.W.ksFn "__init__" "BadRule.__init__" (defArgs sI2) (defBody sI2) (defScope sI2) .none kVI2 dcI2 pmI2 anI2 (.ref cda2) ctI2 cc2), slI2⟩)
    (cIC2 : PySem.W.codeIn K (.ref cda2) "BadRule.__init__" = true)
    (lcdC2 : K.lookup cda2 = some ⟨ccl2, cdd2, .fields vsc2, ccs2⟩)
    (lccC2 : K.lookup cc2 = some ⟨cl2, cld2, .cell (some (.ref C2)), csl2⟩)
    (supC2 : PySem.W.ks_superIn K C2 C2 "__init__" = some (some (.builtin "ValueError.__init__")))
    (vs2C2 : vsc2[2]? = some (.str file2 tf2))
    (filC2 : ((PySem.Challenge.pw_pulsewright_k28_memory_of_rules.main.file : Str) == file2) = true)
    (aC3 : PySem.W.nsIn K mainGlobals "BadPace" = some (some (.ref C3)))
    (eC3 : PySem.W.subIn K (.ref C3) (.type "BaseException") = some true)
    (tC3 : PySem.W.typeIn K (.ref C3) = some (.type "type"))
    (iC3 : PySem.W.isClsIn K C3 = true)
    (aC4 : PySem.W.nsIn K mainGlobals "TooWide" = some (some (.ref C4)))
    (eC4 : PySem.W.subIn K (.ref C4) (.type "BaseException") = some true)
    (tC4 : PySem.W.typeIn K (.ref C4) = some (.type "type"))
    (iC4 : PySem.W.isClsIn K C4 = true)
    (xC4 : K.lookup C4 = some (excClassObj nm4 q4 C4 Ne4 bs4 bm4 true sn4 sub4 ab4 col4 dd4 k04 k14 k24 k34 k54 "ValueError.__new__"))
    (xbC4 : PySem.HandSPX.refsVE bm4 = true)
    (saC4 : PySem.W.findIn K (.ref C4) "__setattr__" = some (some (.builtin "object.__setattr__")))
    (natC4 : PySem.W.findIn K (.ref C4) "stands" = some none)
    (vC4 : PySem.W.subIn K (.ref C4) (.type "ValueError") = some true)
    (mC4 : PySem.W.mroIn K C4 (.ref C4) = some true)
    (kC4 : PySem.W.keepIn K (.ref C4) = true)
    (aIC4 : PySem.W.findIn K (.ref C4) "__init__" = some (some (.ref gI4)))
    (tIC4 : PySem.W.typeIn K (.ref gI4) = some (.type "function"))
    (lIC4 : K.lookup gI4 = some ⟨ocI4, odI4, .func (PySem.W.ksFn "__init__" "TooWide.__init__" (defArgs sI4) (defBody sI4) (defScope sI4) .none kVI4 dcI4 pmI4 anI4 (.ref cda4) ctI4 cc4), slI4⟩)
    (cIC4 : PySem.W.codeIn K (.ref cda4) "TooWide.__init__" = true)
    (lcdC4 : K.lookup cda4 = some ⟨ccl4, cdd4, .fields vsc4, ccs4⟩)
    (lccC4 : K.lookup cc4 = some ⟨cl4, cld4, .cell (some (.ref C4)), csl4⟩)
    (supC4 : PySem.W.ks_superIn K C4 C4 "__init__" = some (some (.builtin "ValueError.__init__")))
    (vs2C4 : vsc4[2]? = some (.str file4 tf4))
    (filC4 : ((PySem.Challenge.pw_pulsewright_k28_memory_of_rules.main.file : Str) == file4) = true)
    (aC5 : PySem.W.nsIn K mainGlobals "Unlawful" = some (some (.ref C5)))
    (aC6 : PySem.W.nsIn K mainGlobals "BadLength" = some (some (.ref C6)))
    (aC7 : PySem.W.nsIn K mainGlobals "BadText" = some (some (.ref C7)))
    (aC8 : PySem.W.nsIn K mainGlobals "PulseError" = some (some (.ref C8)))
    (gaC4 : PySem.W.findIn K (.ref C4) "__getattribute__" = some (some (.builtin "BaseException.__getattribute__")))
    (ggC4 : PySem.W.findIn K (.ref C4) "__getattr__" = some none)
    (hC4 : PySem.W.hasDictIn K C4 = true)
    (sb4_1 : PySem.W.subIn K (.ref C4) (.ref C1) = some false)
    (sb4_2 : PySem.W.subIn K (.ref C4) (.ref C2) = some false)
    (sb4_3 : PySem.W.subIn K (.ref C4) (.ref C3) = some false)
    (sb4_4 : PySem.W.subIn K (.ref C4) (.ref C4) = some true)
    (opq : PySem.W.nsIn K cStatics "thirdparty.any" = some none)
    (tps : (PySem.Challenge.pw_pulsewright_k28_memory_of_rules.main.scope.names.lookup ("super" : Str)).isSome = false)
    (nDE : PySem.W.nsIn K mainGlobals "DEAD_END" = some (some (.ref aDE)))
    (lDE : K.lookup aDE = some ⟨.type "tuple", odDE, .seq #[.none, .none] nDEn, slDE⟩)
    (nMS : PySem.W.nsIn K mainGlobals "MOST_STANDS" = some (some (.int 40 tkMS)))
    (tabLW : h.get? PtLW = some { cls := .none, data := .fields #[] })
    (nPtLW : K.lookup PtLW = none)
    (chdLW : PySem.W.codeHdIn K cLW PtLW = true)
    (tabLP : h.get? PtLP = some { cls := .none, data := .fields #[] })
    (nPtLP : K.lookup PtLP = none)
    (chdLP : PySem.W.codeHdIn K cLP PtLP = true)
    (tabWW : h.get? PtWW = some { cls := .none, data := .fields #[] })
    (nPtWW : K.lookup PtWW = none)
    (chdWW : PySem.W.codeHdIn K cWW PtWW = true)
    (npLWLP : PtLW ≠ PtLP)
    (npLWWW : PtLW ≠ PtWW)
    (npLPWW : PtLP ≠ PtWW)
    : LamX.LawAtS PySem.Challenge.rw_pulsewright_k28_memory_of_rules w K CX0 11 63 "_law_script" mg fa h := by
  have e := hfa.symm.trans (PySem.W.mg_of X G aLW)
  cases e
  have B : BN mg := ⟨PySem.W.mg_none_of X G z_isi, PySem.W.mg_none_of X G z_int, PySem.W.mg_none_of X G z_bool, PySem.W.mg_none_of X G z_str, PySem.W.mg_none_of X G z_tup, PySem.W.mg_none_of X G z_lst, PySem.W.mg_none_of X G z_len, PySem.W.mg_none_of X G z_all, PySem.W.mg_none_of X G z_rng, PySem.W.mg_none_of X G z_max, PySem.W.mg_none_of X G z_min, PySem.W.mg_none_of X G z_abs, PySem.W.mg_none_of X G z_enu⟩
  have zset := PySem.W.mg_none_of X G z_set
  have zsrt := PySem.W.mg_none_of X G z_srt
  have zany := PySem.W.mg_none_of X G z_any
  have zzip := PySem.W.mg_none_of X G z_zip
  have zsum := PySem.W.mg_none_of X G z_sum
  have N1 : Num mg "MOST_WORDS" 6 := ⟨_, PySem.W.mg_of X G n1, _, rfl⟩
  have N2 : Num mg "LONGEST_WORD" 5 := ⟨_, PySem.W.mg_of X G n2, _, rfl⟩
  have N3 : Num mg "GREATEST_LOW" 3 := ⟨_, PySem.W.mg_of X G n3, _, rfl⟩
  have N4 : Num mg "GREATEST_HIGH" 7 := ⟨_, PySem.W.mg_of X G n4, _, rfl⟩
  have N5 : Num mg "GREATEST_SPAN" 4 := ⟨_, PySem.W.mg_of X G n5, _, rfl⟩
  have FFS := fun_mk (st := sFS) lFS cFS kFS
  have FIW := fun_mk (st := sIW) lIW cIW kIW
  have FAW := fun_mk (st := sAW) lAW cAW kAW
  have FCP := fun_mk (st := sCP) lCP cCP kCP
  have FBG := fun_mk (st := sBG) lBG cBG kBG
  have FLE := fun_mk (st := sLE) lLE cLE kLE
  have FSG := fun_mk (st := sSG) lSG cSG kSG
  have FTA := fun_mk (st := sTA) lTA cTA kTA
  have FWD2 := fun_mk (st := sWD2) lWD2 cWD2 kWD2
  have FLG2 := fun_mk (st := sLG2) lLG2 cLG2 kLG2
  have FWB := fun_mk (st := sWB) lWB cWB kWB
  have FLG := fun_mk (st := sLG) lLG cLG kLG
  have FLO := fun_mk (st := sLO) lLO cLO kLO
  have FBW := fun_mk (st := sBW) lBW cBW kBW
  have FLY2 := fun_mk (st := sLY2) lLY2 cLY2 kLY2
  have FMO2 := fun_mk (st := sMO2) lMO2 cMO2 kMO2
  have FME := fun_mk (st := sME) lME cME kME
  have FOP := fun_mk (st := sOP) lOP cOP kOP
  have FPU := fun_mk (st := sPU) lPU cPU kPU
  have FNU := fun_mk (st := sNU) lNU cNU kNU
  have FLK := fun_mk (st := sLK) lLK cLK kLK
  have FRO := fun_mk (st := sRO) lRO cRO kRO
  have FSU := fun_mk (st := sSU) lSU cSU kSU
  have FLA := fun_mk (st := sLA) lLA cLA kLA
  have FKY := fun_mk (st := sKY) lKY cKY kKY
  have FRA := fun_mk (st := sRA) lRA cRA kRA
  have FAL := fun_mk (st := sAL) lAL cAL kAL
  have FKI := fun_mk (st := sKI) lKI cKI kKI
  have FLB := fun_mk (st := sLB) lLB cLB kLB
  have FWD := fun_mk (st := sWD) lWD cWD kWD
  have FWS := fun_mk (st := sWS) lWS cWS kWS
  have FPA := fun_mk (st := sPA) lPA cPA kPA
  have FRL := fun_mk (st := sRL) lRL cRL kRL
  have FVW := fun_mk (st := sVW) lVW cVW kVW
  have FLM := fun_mk (st := sLM) lLM cLM kLM
  have FBP := fun_mk (st := sBP) lBP cBP kBP
  have FMS := fun_mk (st := sMS) lMS cMS kMS
  have mFS := PySem.W.mg_of X G aFS
  have mIW := PySem.W.mg_of X G aIW
  have mAW := PySem.W.mg_of X G aAW
  have mCP := PySem.W.mg_of X G aCP
  have mBG := PySem.W.mg_of X G aBG
  have mLE := PySem.W.mg_of X G aLE
  have mSG := PySem.W.mg_of X G aSG
  have mTA := PySem.W.mg_of X G aTA
  have mNB := PySem.W.mg_of X G aNB
  have mLP := PySem.W.mg_of X G aLP
  have mWD2 := PySem.W.mg_of X G aWD2
  have mLG2 := PySem.W.mg_of X G aLG2
  have mWW := PySem.W.mg_of X G aWW
  have mWB := PySem.W.mg_of X G aWB
  have mLG := PySem.W.mg_of X G aLG
  have mLO := PySem.W.mg_of X G aLO
  have mBW := PySem.W.mg_of X G aBW
  have mLY2 := PySem.W.mg_of X G aLY2
  have mMO2 := PySem.W.mg_of X G aMO2
  have mME := PySem.W.mg_of X G aME
  have mOP := PySem.W.mg_of X G aOP
  have mPU := PySem.W.mg_of X G aPU
  have mNU := PySem.W.mg_of X G aNU
  have mLK := PySem.W.mg_of X G aLK
  have mRO := PySem.W.mg_of X G aRO
  have mSU := PySem.W.mg_of X G aSU
  have mLA := PySem.W.mg_of X G aLA
  have mKY := PySem.W.mg_of X G aKY
  have mRA := PySem.W.mg_of X G aRA
  have mAL := PySem.W.mg_of X G aAL
  have mKI := PySem.W.mg_of X G aKI
  have mLB := PySem.W.mg_of X G aLB
  have mWD := PySem.W.mg_of X G aWD
  have mWS := PySem.W.mg_of X G aWS
  have mPA := PySem.W.mg_of X G aPA
  have mRL := PySem.W.mg_of X G aRL
  have mWH := PySem.W.mg_of X G aWH
  have mVW := PySem.W.mg_of X G aVW
  have mLM := PySem.W.mg_of X G aLM
  have mLW := PySem.W.mg_of X G aLW
  have bFS := FFS.binds (ps := ["text"]) fun _ _ _ _ _ _ us hl => match us, hl with | [_], _ => rfl
  have bIW := FIW.binds (ps := ["text"]) fun _ _ _ _ _ _ us hl => match us, hl with | [_], _ => rfl
  have bAW := FAW.binds (ps := ["texts"]) fun _ _ _ _ _ _ us hl => match us, hl with | [_], _ => rfl
  have bCP := FCP.binds (ps := ["words", "low", "high", "span"]) fun _ _ _ _ _ _ us hl => match us, hl with | [_, _, _, _], _ => rfl
  have bBG := FBG.binds (ps := ["pieces"]) fun _ _ _ _ _ _ us hl => match us, hl with | [_], _ => rfl
  have bLE := FLE.binds (ps := ["row", "begun"]) fun _ _ _ _ _ _ us hl => match us, hl with | [_, _], _ => rfl
  have bSG := FSG.binds (ps := ["risen", "fallen", "sign", "span"]) fun _ _ _ _ _ _ us hl => match us, hl with | [_, _, _, _], _ => rfl
  have bTA := FTA.binds (ps := ["trace", "sign", "pieces", "begun", "span"]) fun _ _ _ _ _ _ us hl => match us, hl with | [_, _, _, _, _], _ => rfl
  have bNB : Binds K (PySem.W.fnOf "numbered" "numbered" (defArgs sNB) (defBody sNB) (defScope sNB) .none kVNB dcNB pmNB anNB cdNB ctNB) ["start", "onward"] [] := Binds.all (fun us hl => match us, hl with | [_, _], _ => rfl)
  have bLP : Binds K (PySem.W.fnOf "lawful_pairs" "lawful_pairs" (defArgs sLP) (defBody sLP) (defScope sLP) .none kVLP dcLP pmLP anLP (.ref cLP) ctLP) ["rule"] [] := Binds.all (fun us hl => match us, hl with | [_], _ => rfl)
  have bWD2 := FWD2.binds (ps := ["pairs"]) fun _ _ _ _ _ _ us hl => match us, hl with | [_], _ => rfl
  have bLG2 := FLG2.binds (ps := ["pairs"]) fun _ _ _ _ _ _ us hl => match us, hl with | [_], _ => rfl
  have bWW : Binds K (PySem.W.fnOf "whole_web" "whole_web" (defArgs sWW) (defBody sWW) (defScope sWW) .none kVWW dcWW pmWW anWW (.ref cWW) ctWW) ["rule"] [] := Binds.all (fun us hl => match us, hl with | [_], _ => rfl)
  have bWB := FWB.binds (ps := ["rule"]) fun _ _ _ _ _ _ us hl => match us, hl with | [_], _ => rfl
  have bLG := FLG.binds (ps := ["ways"]) fun _ _ _ _ _ _ us hl => match us, hl with | [_], _ => rfl
  have bLO := FLO.binds (ps := ["ways"]) fun _ _ _ _ _ _ us hl => match us, hl with | [_], _ => rfl
  have bBW := FBW.binds (ps := ["stands"]) fun _ _ _ _ _ _ us hl => match us, hl with | [_], _ => rfl
  have bLY2 := FLY2.binds (ps := ["ways"]) fun _ _ _ _ _ _ us hl => match us, hl with | [_], _ => rfl
  have bMO2 := FMO2.binds (ps := ["stands"]) fun _ _ _ _ _ _ us hl => match us, hl with | [_], _ => rfl
  have bME := FME.binds (ps := ["rule"]) fun _ _ _ _ _ _ us hl => match us, hl with | [_], _ => rfl
  have bOP := FOP.binds (ps := ["_law_script"]) fun _ _ _ _ _ _ us hl => match us, hl with | [_], _ => rfl
  have bPU := FPU.binds (ps := ["_law_draw", "_law_total_of"]) fun _ _ _ _ _ _ us hl => match us, hl with | [_, _], _ => rfl
  have bNU := FNU.binds (ps := ["_law_found"]) fun _ _ _ _ _ _ us hl => match us, hl with | [_], _ => rfl
  have bLK := FLK.binds (ps := ["_law_found", "_law_due"]) fun _ _ _ _ _ _ us hl => match us, hl with | [_, _], _ => rfl
  have bRO := FRO.binds (ps := ["_law_draw", "_law_many"]) fun _ _ _ _ _ _ us hl => match us, hl with | [_, _], _ => rfl
  have bSU := FSU.binds (ps := ["_law_row_here"]) fun _ _ _ _ _ _ us hl => match us, hl with | [_], _ => rfl
  have bLA := FLA.binds (ps := ["_law_r", "_law_row_here"]) fun _ _ _ _ _ _ us hl => match us, hl with | [_, _], _ => rfl
  have bKY := FKY.binds (ps := ["_law_r", "_law_row_here"]) fun _ _ _ _ _ _ us hl => match us, hl with | [_, _], _ => rfl
  have bRA := FRA.binds (ps := ["_law_r"]) fun _ _ _ _ _ _ us hl => match us, hl with | [_], _ => rfl
  have bAL := FAL.binds (ps := ["_law_raw_here"]) fun _ _ _ _ _ _ us hl => match us, hl with | [_], _ => rfl
  have bKI := FKI.binds (ps := ["_law_raw_here", "_law_alive_here"]) fun _ _ _ _ _ _ us hl => match us, hl with | [_, _], _ => rfl
  have bLB := FLB.binds (ps := ["_law_r"]) fun _ _ _ _ _ _ us hl => match us, hl with | [_], _ => rfl
  have bWD := FWD.binds (ps := ["_law_draw"]) fun _ _ _ _ _ _ us hl => match us, hl with | [_], _ => rfl
  have bWS := FWS.binds (ps := ["_law_draw", "_law_most"]) fun _ _ _ _ _ _ us hl => match us, hl with | [_, _], _ => rfl
  have bPA := FPA.binds (ps := ["_law_draw"]) fun _ _ _ _ _ _ us hl => match us, hl with | [_], _ => rfl
  have bRL := FRL.binds (ps := ["_law_r"]) fun _ _ _ _ _ _ us hl => match us, hl with | [_], _ => rfl
  have bWH : Binds K (PySem.W.fnOf "_law_why" "_law_why" (defArgs sWH) (defBody sWH) (defScope sWH) .none kVWH dcWH pmWH anWH cdWH ctWH) ["_law_ask"] [] := Binds.all (fun us hl => match us, hl with | [_], _ => rfl)
  have bVW := FVW.binds (ps := ["_law_draw"]) fun _ _ _ _ _ _ us hl => match us, hl with | [_], _ => rfl
  have bLM := FLM.binds (ps := ["_law_pairs"]) fun _ _ _ _ _ _ us hl => match us, hl with | [_], _ => rfl
  have bLW : Binds K (PySem.W.fnOf "law" "law" (defArgs sLW) (defBody sLW) (defScope sLW) .none kVLW dcLW pmLW anLW (.ref cLW) ctLW) ["_law_script"] [] := Binds.all (fun us hl => match us, hl with | [_], _ => rfl)
  have bBP := FBP.binds (ps := ["self"]) fun _ _ _ _ _ _ us hl => match us, hl with | [_], _ => rfl
  have bMS := FMS.binds (ps := ["self"]) fun _ _ _ _ _ _ us hl => match us, hl with | [_], _ => rfl
  have oex2 : OexC K C2 := ⟨⟨nm2, q2, Ne2, bs2, bm2, sn2, sub2, ab2, col2, dd2, k02, k12, k22, k32, k52, xC2, xbC2⟩, saC2, eC2, tC2, kC2⟩
  have S2 : SupC PySem.Challenge.pw_pulsewright_k28_memory_of_rules K mg C2 gI2 cc2 cda2 "part" := ⟨oex2, natC2, mC2, vC2, supC2, opq, ⟨ccl2, cdd2, vsc2, ccs2, file2, tf2, lcdC2, vs2C2, filC2⟩, ⟨cl2, cld2, csl2, lccC2⟩, PySem.W.mg_none_of X G z_sup, tps⟩
  have oex4 : OexC K C4 := ⟨⟨nm4, q4, Ne4, bs4, bm4, sn4, sub4, ab4, col4, dd4, k04, k14, k24, k34, k54, xC4, xbC4⟩, saC4, eC4, tC4, kC4⟩
  have S4 : SupC PySem.Challenge.pw_pulsewright_k28_memory_of_rules K mg C4 gI4 cc4 cda4 "stands" := ⟨oex4, natC4, mC4, vC4, supC4, opq, ⟨ccl4, cdd4, vsc4, ccs4, file4, tf4, lcdC4, vs2C4, filC4⟩, ⟨cl4, cld4, csl4, lccC4⟩, PySem.W.mg_none_of X G z_sup, tps⟩
  have RC : RuleC K R := ⟨⟨pgR, hdR, poR, saR⟩, na1, na2, na3, na4⟩
  have FRI : FunD K "__init__" "Rule.__init__" (defArgs sRI) (defBody sRI) (defScope sRI) dR [] fRI _ := ⟨⟨_, _, _, _, _, _, _, _, _, _, rfl, lRI, cRI, .inr ⟨by simp, Td, _, [.none, .int 0 tk0, .none, .none], nT, rfl, lTd, rfl, .cons rfl (.cons ⟨_, rfl⟩ (.cons rfl (.cons rfl .nil)))⟩, .inl rfl⟩, kRI⟩
  have MK : Mk K R fRI := ⟨mkR, f_RI, i_RI, kR⟩
  refine ⟨PySem.W.fnOf "law" "law" (defArgs sLW) (defBody sLW) (defScope sLW) .none kVLW dcLW pmLW anLW (.ref cLW) ctLW, [(cLW, PtLW), (cLP, PtLP), (cWW, PtWW)], spLW K [(PtLW, qL), (PtLP, qLP), (PtWW, qWW)], ?_, ?_, ?_, fun s u => .of_eq rfl, ?_, fun base kb gb tb => ?_⟩
  · intro p hp
    rcases List.mem_cons.mp hp with rfl | hp
    · exact tabLW
    rcases List.mem_cons.mp hp with rfl | hp
    · exact tabLP
    rcases List.mem_cons.mp hp with rfl | hp
    · exact tabWW
    cases hp
  · intro p hp
    rcases List.mem_cons.mp hp with rfl | hp
    · exact nPtLW
    rcases List.mem_cons.mp hp with rfl | hp
    · exact nPtLP
    rcases List.mem_cons.mp hp with rfl | hp
    · exact nPtWW
    cases hp
  · intro p hp
    rcases List.mem_cons.mp hp with rfl | hp
    · exact PySem.W.codeHd_of_K X chdLW
    rcases List.mem_cons.mp hp with rfl | hp
    · exact PySem.W.codeHd_of_K X chdLP
    rcases List.mem_cons.mp hp with rfl | hp
    · exact PySem.W.codeHd_of_K X chdWW
    cases hp
  · intro H a ns _ _ hp hS
    refine ⟨a, ns, rfl, hS, fun p hm => ?_, fun _ => rfl⟩
    rcases List.mem_cons.mp hm with rfl | hm
    · exact LamX.TabS.nil (hp (cLW, PtLW) (by simp))
    rcases List.mem_cons.mp hm with rfl | hm
    · exact LamX.TabS.nil (hp (cLP, PtLP) (by simp))
    rcases List.mem_cons.mp hm with rfl | hm
    · exact LamX.TabS.nil (hp (cWW, PtWW) (by simp))
    cases hm
  · have E2 := err_2 (w := w) (base := base) S2 lIC2 cIC2 (PySem.W.mg_of X G aC2) aIC2 tIC2
    have E4 := err_4 (w := w) (base := base) S4 lIC4 cIC4 (PySem.W.mg_of X G aC4) aIC4 tIC4
    have oFS : FnOk PySem.Challenge.pw_pulsewright_k28_memory_of_rules w K mg base CX0 1 fFS _ ["text"] spFS := ok_fs FFS B.enu
    have oIW : FnOk PySem.Challenge.pw_pulsewright_k28_memory_of_rules w K mg base CX0 2 fIW _ ["text"] spIW := ok_iw FIW oFS mFS kFS bFS B.len N2
    have oAW : FnOk PySem.Challenge.pw_pulsewright_k28_memory_of_rules w K mg base CX0 3 fAW _ ["texts"] spAW := ok_aw FAW oIW mIW kIW bIW B.len zset B.all N1
    have oCP : FnOk PySem.Challenge.pw_pulsewright_k28_memory_of_rules w K mg base (L2.CX PySem.Challenge.pw_pulsewright_k28_memory_of_rules w) 4 fCP _ ["words", "low", "high", "span"] (spCP C2) := ok_cp FCP oAW mAW kAW bAW B.max N3 N4 N5 E2
    have oRI : FnOk PySem.Challenge.pw_pulsewright_k28_memory_of_rules w K mg base (L2.CX PySem.Challenge.pw_pulsewright_k28_memory_of_rules w) 5 fRI _ psR (spRI R C2) := ok_ri FRI oCP mCP kCP bCP zsrt RC
    have KK : RMk PySem.Challenge.pw_pulsewright_k28_memory_of_rules w K mg base R C2 := ⟨⟨fRI, _, oRI, MK, FRI⟩, PySem.W.mg_of X G aR⟩
    have oBP : FnOk PySem.Challenge.pw_pulsewright_k28_memory_of_rules w K mg base CX0 1 fBP _ ["self"] (spBP R) := ok_bp FBP RC B.rng
    have oMS : FnOk PySem.Challenge.pw_pulsewright_k28_memory_of_rules w K mg base CX0 1 fMS _ ["self"] (spMO R fun _ _ sp => vI sp) := ok_ms FMS RC
    have oBG : FnOk PySem.Challenge.pw_pulsewright_k28_memory_of_rules w K mg base CX0 1 fBG _ ["pieces"] spBG := ok_bg FBG B.rng B.len
    have oLE : FnOk PySem.Challenge.pw_pulsewright_k28_memory_of_rules w K mg base CX0 1 fLE _ ["row", "begun"] spLE := ok_le FLE B.rng B.len
    have oSG : FnOk PySem.Challenge.pw_pulsewright_k28_memory_of_rules w K mg base CX0 1 fSG _ ["risen", "fallen", "sign", "span"] spSG := ok_sg FSG B.max zsum
    have oTA : FnOk PySem.Challenge.pw_pulsewright_k28_memory_of_rules w K mg base CX0 2 fTA _ ["trace", "sign", "pieces", "begun", "span"] spTA := ok_ta FTA zany oSG mSG kSG bSG oLE mLE kLE bLE
    have DE : TupN K mg "DEAD_END" [.non, .non] := ⟨aDE, PySem.W.mg_of X G nDE, fun H => .inr ⟨_, _, _, lDE, rfl, rfl, (show 2 ≤ sizeLine by decide), .cons rfl (.cons rfl .nil)⟩⟩
    have oLP : FnOk PySem.Challenge.pw_pulsewright_k28_memory_of_rules w K mg base CX0 5 fLP _ ["rule"] (spLP R [(PtLW, qL), (PtLP, qLP), (PtWW, qWW)]) := ok_lp lLP cLP2 lNB cNB mNB kNB bNB (tb (cLP, PtLP) (by simp)) (by simp) (fun p hp => by rcases List.mem_cons.mp hp with rfl | hp; exact (fun z => absurd z npLWLP); rcases List.mem_cons.mp hp with rfl | hp; exact (fun _ => rfl); rcases List.mem_cons.mp hp with rfl | hp; exact (fun z => absurd z (Ne.symm npLPWW)); cases hp) B.len B.tup oBP ⟨f_BP, i_BP, kBP⟩ bBP oBG mBG kBG bBG oMS ⟨f_MS, i_MS, kMS⟩ bMS oTA mTA kTA bTA RC
    have oWD2 : FnOk PySem.Challenge.pw_pulsewright_k28_memory_of_rules w K mg base CX0 1 fWD2 _ ["pairs"] spWE := ok_we FWD2 B.tup DE
    have oLG2 : FnOk PySem.Challenge.pw_pulsewright_k28_memory_of_rules w K mg base CX0 1 fLG2 _ ["pairs"] spLG2 := ok_lg FLG2 B.len B.tup
    have oWW : FnOk PySem.Challenge.pw_pulsewright_k28_memory_of_rules w K mg base CX0 6 fWW _ ["rule"] (spWW R [(PtLW, qL), (PtLP, qLP), (PtWW, qWW)]) := ok_ww lWW cWW2 lNB cNB mNB kNB bNB (tb (cWW, PtWW) (by simp)) (by simp) (fun p hp => by rcases List.mem_cons.mp hp with rfl | hp; exact (fun z => absurd z npLWWW); rcases List.mem_cons.mp hp with rfl | hp; exact (fun z => absurd z npLPWW); rcases List.mem_cons.mp hp with rfl | hp; exact (fun _ => rfl); cases hp) B.len B.tup zzip DE oLP mLP kLP bLP oWD2 mWD2 kWD2 bWD2 oLG2 mLG2 kLG2 bLG2
    have oWB : FnOk PySem.Challenge.pw_pulsewright_k28_memory_of_rules w K mg base (L2.CX PySem.Challenge.pw_pulsewright_k28_memory_of_rules w) 7 fWB _ ["rule"] (spWB R C4 [(PtLW, qL), (PtLP, qLP), (PtWW, qWW)]) := ok_wb FWB E4 B.len ⟨_, PySem.W.mg_of X G nMS, _, rfl⟩ oWW mWW kWW bWW
    have oPU : FnOk PySem.Challenge.pw_pulsewright_k28_memory_of_rules w K mg base CX0 1 fPU _ ["_law_draw", "_law_total_of"] spPU := ok_pu FPU B.len
    have PU : PUOk PySem.Challenge.pw_pulsewright_k28_memory_of_rules w K mg base := ⟨⟨_, _, oPU, mPU, kPU, bPU⟩⟩
    have oRO : FnOk PySem.Challenge.pw_pulsewright_k28_memory_of_rules w K mg base CX0 2 fRO _ ["_law_draw", "_law_many"] spRO := ok_ro FRO PU B.rng
    have oNU : FnOk PySem.Challenge.pw_pulsewright_k28_memory_of_rules w K mg base CX0 1 fNU _ ["_law_found"] spNU := ok_nu FNU B
    have oSU : FnOk PySem.Challenge.pw_pulsewright_k28_memory_of_rules w K mg base CX0 1 fSU _ ["_law_row_here"] spSU := ok_su FSU B.int
    have oLA : FnOk PySem.Challenge.pw_pulsewright_k28_memory_of_rules w K mg base CX0 2 fLA _ ["_law_r", "_law_row_here"] spLA := ok_la FLA B zany oSU mSU kSU bSU
    have oKY : FnOk PySem.Challenge.pw_pulsewright_k28_memory_of_rules w K mg base CX0 2 fKY _ ["_law_r", "_law_row_here"] spKY := ok_ky FKY B oSU mSU kSU bSU
    have oRA : FnOk PySem.Challenge.pw_pulsewright_k28_memory_of_rules w K mg base CX0 3 fRA _ ["_law_r"] spRA := ok_ra FRA B oKY mKY kKY bKY oLA mLA kLA bLA
    have oAL : FnOk PySem.Challenge.pw_pulsewright_k28_memory_of_rules w K mg base CX0 1 fAL _ ["_law_raw_here"] spAL := ok_al FAL B zany zzip
    have oKI : FnOk PySem.Challenge.pw_pulsewright_k28_memory_of_rules w K mg base CX0 1 fKI _ ["_law_raw_here", "_law_alive_here"] spKI := ok_ki FKI B B.tup
    have oLB : FnOk PySem.Challenge.pw_pulsewright_k28_memory_of_rules w K mg base CX0 4 fLB _ ["_law_r"] spLB := ok_lb FLB B oRA mRA kRA bRA oAL mAL kAL bAL oKI mKI kKI bKI
    have oWD : FnOk PySem.Challenge.pw_pulsewright_k28_memory_of_rules w K mg base CX0 3 fWD _ ["_law_draw"] spWD := ok_wd FWD PU oRO mRO kRO bRO
    have oWS : FnOk PySem.Challenge.pw_pulsewright_k28_memory_of_rules w K mg base CX0 4 fWS _ ["_law_draw", "_law_most"] spWS := ok_ws FWS B PU oWD mWD kWD bWD
    have oPA : FnOk PySem.Challenge.pw_pulsewright_k28_memory_of_rules w K mg base CX0 5 fPA _ ["_law_draw"] (spPA 6) := ok_pa FPA B zsrt PU oWS mWS kWS bWS
    have oRL : FnOk PySem.Challenge.pw_pulsewright_k28_memory_of_rules w K mg base CX0 7 fRL _ ["_law_r"] (spRL R) := ok_rl FRL B KK
    have oVW : FnOk PySem.Challenge.pw_pulsewright_k28_memory_of_rules w K mg base CX0 6 fVW _ ["_law_draw"] spVW := ok_vw FVW B zsrt zset oPU mPU kPU bPU oPA mPA kPA bPA oLB mLB kLB bLB
    have oLG : FnOk PySem.Challenge.pw_pulsewright_k28_memory_of_rules w K mg base CX0 1 fLG _ ["ways"] spLG := ok_lg2 FLG B
    have oLO : FnOk PySem.Challenge.pw_pulsewright_k28_memory_of_rules w K mg base CX0 2 fLO _ ["ways"] spLO := ok_lo FLO B oLG mLG kLG bLG
    have oBW : FnOk PySem.Challenge.pw_pulsewright_k28_memory_of_rules w K mg base CX0 1 fBW _ ["stands"] spBW := ok_bw FBW B zzip
    have oLY2 : FnOk PySem.Challenge.pw_pulsewright_k28_memory_of_rules w K mg base CX0 3 fLY2 _ ["ways"] spLY2 := ok_ly2 FLY2 B oLO mLO kLO bLO
    have oMO2 : FnOk PySem.Challenge.pw_pulsewright_k28_memory_of_rules w K mg base CX0 4 fMO2 _ ["stands"] spMO2 := ok_mo2 FMO2 oBW mBW kBW bBW oLY2 mLY2 kLY2 bLY2
    have oME : FnOk PySem.Challenge.pw_pulsewright_k28_memory_of_rules w K mg base (L2.CX PySem.Challenge.pw_pulsewright_k28_memory_of_rules w) 8 fME _ ["rule"] (spME R C4 [(PtLW, qL), (PtLP, qLP), (PtWW, qWW)]) := ok_me FME oWB mWB kWB bWB oMO2 mMO2 kMO2 bMO2
    have oLM : FnOk PySem.Challenge.pw_pulsewright_k28_memory_of_rules w K mg base CX0 1 fLM _ ["_law_pairs"] spLM := ok_lm FLM B
    have TY : ClsY K mg C1 C2 C3 C4 C5 C6 C7 C8 := { str := B.str, m1 := PySem.W.mg_of X G aC1, m2 := PySem.W.mg_of X G aC2, m3 := PySem.W.mg_of X G aC3, m4 := PySem.W.mg_of X G aC4, x4 := ⟨gaC4, ggC4, eC4, hC4⟩, no4 := natC4, me4 := exm_of eC4 iC4 tC4 sb4_4, ne4_1 := exm_of eC1 iC1 tC1 sb4_1, ne4_2 := exm_of eC2 iC2 tC2 sb4_2, ne4_3 := exm_of eC3 iC3 tC3 sb4_3, m5 := PySem.W.mg_of X G aC5, m6 := PySem.W.mg_of X G aC6, m7 := PySem.W.mg_of X G aC7, m8 := PySem.W.mg_of X G aC8 }
    have Z : Calls PySem.Challenge.pw_pulsewright_k28_memory_of_rules w K mg base R C2 C4 [(PtLW, qL), (PtLP, qLP), (PtWW, qWW)] := ⟨B, ⟨⟨_, _, ok_op FOP B.lst, mOP, kOP, bOP⟩⟩, ⟨⟨_, _, oVW, mVW, kVW, bVW⟩⟩, ⟨⟨_, _, oRL, mRL, kRL, bRL⟩⟩, ⟨⟨_, _, oLM, mLM, kLM, bLM⟩⟩, ⟨⟨_, _, ok_lk FLK B mLK kLK bLK oNU mNU kNU bNU 4, mLK, kLK, bLK⟩⟩, ⟨⟨_, _, oME, mME, kME, bME⟩⟩, KK⟩
    exact ok_lw lLW cLW2 lWH cWH mWH kWH bWH (tb (cLW, PtLW) (by simp)) (by simp) (fun p hp => by rcases List.mem_cons.mp hp with rfl | hp; exact (fun _ => rfl); rcases List.mem_cons.mp hp with rfl | hp; exact (fun z => absurd z (Ne.symm npLWLP)); rcases List.mem_cons.mp hp with rfl | hp; exact (fun z => absurd z (Ne.symm npLWWW)); cases hp) TY Z
end K28

set_option Elab.async false
open PySem PySem.W PyProof.Rows
set_option maxRecDepth 100000 in
set_option maxHeartbeats 0 in
theorem K28.whole : PySem.Challenge.rw_pulsewright_k28_memory_of_rules.Holds := by
  w_on; o_law; k_head; (case hw => w_witness2)
  k_fill
  refine LamX.walk_ofTs (l := PySem.Challenge.rw_pulsewright_k28_memory_of_rules) (n := 63) (k := 11) (x := "_law_script") (CX := fun _ => L2.CX0) rfl (by decide) rfl ⟨rfl, by decide, by decide⟩ (fun w h Y => PySem.W.km_in_of Y) ?F (fun _ _ _ _ _ z => z)
  case F =>
    intro w mg fa h Y KX G hmg
    have hY := PySem.W.km_tabs_of Y
    refine' K28.all_mk KX G hmg ?aFS ?lFS ?cFS ?kFS ?aIW ?lIW ?cIW ?kIW ?aAW ?lAW ?cAW ?kAW ?aCP ?lCP ?cCP ?kCP ?aBG ?lBG ?cBG ?kBG ?aLE ?lLE ?cLE ?kLE ?aSG ?lSG ?cSG ?kSG ?aTA ?lTA ?cTA ?kTA ?aNB ?lNB ?cNB ?kNB ?aLP ?lLP ?cLP2 ?kLP ?aWD2 ?lWD2 ?cWD2 ?kWD2 ?aLG2 ?lLG2 ?cLG2 ?kLG2 ?aWW ?lWW ?cWW2 ?kWW ?aWB ?lWB ?cWB ?kWB ?aLG ?lLG ?cLG ?kLG ?aLO ?lLO ?cLO ?kLO ?aBW ?lBW ?cBW ?kBW ?aLY2 ?lLY2 ?cLY2 ?kLY2 ?aMO2 ?lMO2 ?cMO2 ?kMO2 ?aME ?lME ?cME ?kME ?aOP ?lOP ?cOP ?kOP ?aPU ?lPU ?cPU ?kPU ?aNU ?lNU ?cNU ?kNU ?aLK ?lLK ?cLK ?kLK ?aRO ?lRO ?cRO ?kRO ?aSU ?lSU ?cSU ?kSU ?aLA ?lLA ?cLA ?kLA ?aKY ?lKY ?cKY ?kKY ?aRA ?lRA ?cRA ?kRA ?aAL ?lAL ?cAL ?kAL ?aKI ?lKI ?cKI ?kKI ?aLB ?lLB ?cLB ?kLB ?aWD ?lWD ?cWD ?kWD ?aWS ?lWS ?cWS ?kWS ?aPA ?lPA ?cPA ?kPA ?aRL ?lRL ?cRL ?kRL ?aWH ?lWH ?cWH ?kWH ?aVW ?lVW ?cVW ?kVW ?aLM ?lLM ?cLM ?kLM ?aLW ?lLW ?cLW2 ?kLW ?z_isi ?z_int ?z_bool ?z_str ?z_tup ?z_lst ?z_len ?z_all ?z_rng ?z_max ?z_min ?z_abs ?z_enu ?z_sup ?z_set ?z_srt ?z_any ?z_zip ?z_sum ?n1 ?n2 ?n3 ?n4 ?n5 ?aR ?f_BP ?lBP ?cBP ?i_BP ?kBP ?f_MS ?lMS ?cMS ?i_MS ?kMS ?f_RI ?lRI ?cRI ?i_RI ?kRI ?lTd ?mkR ?kR ?pgR ?hdR ?poR ?saR ?na1 ?na2 ?na3 ?na4 ?aC1 ?eC1 ?tC1 ?iC1 ?aC2 ?eC2 ?tC2 ?iC2 ?xC2 ?xbC2 ?saC2 ?natC2 ?vC2 ?mC2 ?kC2 ?aIC2 ?tIC2 ?lIC2 ?cIC2 ?lcdC2 ?lccC2 ?supC2 ?vs2C2 ?filC2 ?aC3 ?eC3 ?tC3 ?iC3 ?aC4 ?eC4 ?tC4 ?iC4 ?xC4 ?xbC4 ?saC4 ?natC4 ?vC4 ?mC4 ?kC4 ?aIC4 ?tIC4 ?lIC4 ?cIC4 ?lcdC4 ?lccC4 ?supC4 ?vs2C4 ?filC4 ?aC5 ?aC6 ?aC7 ?aC8 ?gaC4 ?ggC4 ?hC4 ?sb4_1 ?sb4_2 ?sb4_3 ?sb4_4 ?opq ?tps ?nDE ?lDE ?nMS ?tabLW ?nPtLW ?chdLW ?tabLP ?nPtLP ?chdLP ?tabWW ?nPtWW ?chdWW ?npLWLP ?npLWWW ?npLPWW
    (case aFS => k_is)
    (case lFS => k_is)
    (case cFS => k_is)
    (case kFS => k_is)
    (case aIW => k_is)
    (case lIW => k_is)
    (case cIW => k_is)
    (case kIW => k_is)
    (case aAW => k_is)
    (case lAW => k_is)
    (case cAW => k_is)
    (case kAW => k_is)
    (case aCP => k_is)
    (case lCP => k_is)
    (case cCP => k_is)
    (case kCP => k_is)
    (case aBG => k_is)
    (case lBG => k_is)
    (case cBG => k_is)
    (case kBG => k_is)
    (case aLE => k_is)
    (case lLE => k_is)
    (case cLE => k_is)
    (case kLE => k_is)
    (case aSG => k_is)
    (case lSG => k_is)
    (case cSG => k_is)
    (case kSG => k_is)
    (case aTA => k_is)
    (case lTA => k_is)
    (case cTA => k_is)
    (case kTA => k_is)
    (case aNB => k_is)
    (case lNB => k_is)
    (case cNB => k_is)
    (case kNB => k_is)
    (case aLP => k_is)
    (case lLP => k_is)
    (case cLP2 => k_is)
    (case kLP => k_is)
    (case aWD2 => k_is)
    (case lWD2 => k_is)
    (case cWD2 => k_is)
    (case kWD2 => k_is)
    (case aLG2 => k_is)
    (case lLG2 => k_is)
    (case cLG2 => k_is)
    (case kLG2 => k_is)
    (case aWW => k_is)
    (case lWW => k_is)
    (case cWW2 => k_is)
    (case kWW => k_is)
    (case aWB => k_is)
    (case lWB => k_is)
    (case cWB => k_is)
    (case kWB => k_is)
    (case aLG => k_is)
    (case lLG => k_is)
    (case cLG => k_is)
    (case kLG => k_is)
    (case aLO => k_is)
    (case lLO => k_is)
    (case cLO => k_is)
    (case kLO => k_is)
    (case aBW => k_is)
    (case lBW => k_is)
    (case cBW => k_is)
    (case kBW => k_is)
    (case aLY2 => k_is)
    (case lLY2 => k_is)
    (case cLY2 => k_is)
    (case kLY2 => k_is)
    (case aMO2 => k_is)
    (case lMO2 => k_is)
    (case cMO2 => k_is)
    (case kMO2 => k_is)
    (case aME => k_is)
    (case lME => k_is)
    (case cME => k_is)
    (case kME => k_is)
    (case aOP => k_is)
    (case lOP => k_is)
    (case cOP => k_is)
    (case kOP => k_is)
    (case aPU => k_is)
    (case lPU => k_is)
    (case cPU => k_is)
    (case kPU => k_is)
    (case aNU => k_is)
    (case lNU => k_is)
    (case cNU => k_is)
    (case kNU => k_is)
    (case aLK => k_is)
    (case lLK => k_is)
    (case cLK => k_is)
    (case kLK => k_is)
    (case aRO => k_is)
    (case lRO => k_is)
    (case cRO => k_is)
    (case kRO => k_is)
    (case aSU => k_is)
    (case lSU => k_is)
    (case cSU => k_is)
    (case kSU => k_is)
    (case aLA => k_is)
    (case lLA => k_is)
    (case cLA => k_is)
    (case kLA => k_is)
    (case aKY => k_is)
    (case lKY => k_is)
    (case cKY => k_is)
    (case kKY => k_is)
    (case aRA => k_is)
    (case lRA => k_is)
    (case cRA => k_is)
    (case kRA => k_is)
    (case aAL => k_is)
    (case lAL => k_is)
    (case cAL => k_is)
    (case kAL => k_is)
    (case aKI => k_is)
    (case lKI => k_is)
    (case cKI => k_is)
    (case kKI => k_is)
    (case aLB => k_is)
    (case lLB => k_is)
    (case cLB => k_is)
    (case kLB => k_is)
    (case aWD => k_is)
    (case lWD => k_is)
    (case cWD => k_is)
    (case kWD => k_is)
    (case aWS => k_is)
    (case lWS => k_is)
    (case cWS => k_is)
    (case kWS => k_is)
    (case aPA => k_is)
    (case lPA => k_is)
    (case cPA => k_is)
    (case kPA => k_is)
    (case aRL => k_is)
    (case lRL => k_is)
    (case cRL => k_is)
    (case kRL => k_is)
    (case aWH => k_is)
    (case lWH => k_is)
    (case cWH => k_is)
    (case kWH => k_is)
    (case aVW => k_is)
    (case lVW => k_is)
    (case cVW => k_is)
    (case kVW => k_is)
    (case aLM => k_is)
    (case lLM => k_is)
    (case cLM => k_is)
    (case kLM => k_is)
    (case aLW => k_is)
    (case lLW => k_is)
    (case cLW2 => k_is)
    (case kLW => k_is)
    (case z_isi => k_is)
    (case z_int => k_is)
    (case z_bool => k_is)
    (case z_str => k_is)
    (case z_tup => k_is)
    (case z_lst => k_is)
    (case z_len => k_is)
    (case z_all => k_is)
    (case z_rng => k_is)
    (case z_max => k_is)
    (case z_min => k_is)
    (case z_abs => k_is)
    (case z_enu => k_is)
    (case z_sup => k_is)
    (case z_set => k_is)
    (case z_srt => k_is)
    (case z_any => k_is)
    (case z_zip => k_is)
    (case z_sum => k_is)
    (case n1 => k_is)
    (case n2 => k_is)
    (case n3 => k_is)
    (case n4 => k_is)
    (case n5 => k_is)
    (case aR => k_is)
    (case f_BP => k_is)
    (case lBP => k_is)
    (case cBP => k_is)
    (case i_BP => k_is)
    (case kBP => k_is)
    (case f_MS => k_is)
    (case lMS => k_is)
    (case cMS => k_is)
    (case i_MS => k_is)
    (case kMS => k_is)
    (case f_RI => k_is)
    (case lRI => k_is)
    (case cRI => k_is)
    (case i_RI => k_is)
    (case kRI => k_is)
    (case lTd => k_is)
    (case mkR => k_is)
    (case kR => k_is)
    (case pgR => k_is)
    (case hdR => k_is)
    (case poR => k_is)
    (case saR => k_is)
    (case na1 => k_is)
    (case na2 => k_is)
    (case na3 => k_is)
    (case na4 => k_is)
    (case aC1 => k_is)
    (case eC1 => k_is)
    (case tC1 => k_is)
    (case iC1 => k_is)
    (case aC2 => k_is)
    (case eC2 => k_is)
    (case tC2 => k_is)
    (case iC2 => k_is)
    (case xC2 => k_is)
    (case xbC2 => first | rfl | decide +kernel)
    (case saC2 => k_is)
    (case natC2 => k_is)
    (case vC2 => k_is)
    (case mC2 => k_is)
    (case kC2 => k_is)
    (case aIC2 => k_is)
    (case tIC2 => k_is)
    (case lIC2 => k_is)
    (case cIC2 => k_is)
    (case lcdC2 => k_is)
    (case lccC2 => k_is)
    (case supC2 => ks_is)
    (case vs2C2 => rfl)
    (case filC2 => first | rfl | decide +kernel)
    (case aC3 => k_is)
    (case eC3 => k_is)
    (case tC3 => k_is)
    (case iC3 => k_is)
    (case aC4 => k_is)
    (case eC4 => k_is)
    (case tC4 => k_is)
    (case iC4 => k_is)
    (case xC4 => k_is)
    (case xbC4 => first | rfl | decide +kernel)
    (case saC4 => k_is)
    (case natC4 => k_is)
    (case vC4 => k_is)
    (case mC4 => k_is)
    (case kC4 => k_is)
    (case aIC4 => k_is)
    (case tIC4 => k_is)
    (case lIC4 => k_is)
    (case cIC4 => k_is)
    (case lcdC4 => k_is)
    (case lccC4 => k_is)
    (case supC4 => ks_is)
    (case vs2C4 => rfl)
    (case filC4 => first | rfl | decide +kernel)
    (case aC5 => k_is)
    (case aC6 => k_is)
    (case aC7 => k_is)
    (case aC8 => k_is)
    (case gaC4 => k_is)
    (case ggC4 => k_is)
    (case hC4 => k_is)
    (case sb4_1 => k_is)
    (case sb4_2 => k_is)
    (case sb4_3 => k_is)
    (case sb4_4 => k_is)
    (case opq => k_is)
    (case tps => first | rfl | decide +kernel)
    (case nDE => k_is)
    (case lDE => k_is)
    (case nMS => k_is)
    (case tabLW => exact hY _ (List.mem_cons_of_mem _ (List.mem_cons_of_mem _ List.mem_cons_self)))
    (case nPtLW => first | rfl | kernel_rfl)
    (case chdLW => first | rfl | kernel_rfl)
    (case tabLP => exact hY _ List.mem_cons_self)
    (case nPtLP => first | rfl | kernel_rfl)
    (case chdLP => first | rfl | kernel_rfl)
    (case tabWW => exact hY _ (List.mem_cons_of_mem _ List.mem_cons_self))
    (case nPtWW => first | rfl | kernel_rfl)
    (case chdWW => first | rfl | kernel_rfl)
    (case npLWLP => decide)
    (case npLWWW => decide)
    (case npLPWW => decide)
theorem PySem.Challenge.cw_pulsewright_k28_memory_of_rules_holds : PySem.Challenge.rw_pulsewright_k28_memory_of_rules.Holds := by
  exact K28.whole

