import PyProof.Rows.All
import Wide.All
import OpenK.AllK
import Wide.FinOn
import KE.KExcSuper
import HandS.Base
import HandS.Call
import HandS.List
import HandS.Ends
import HandS.Exc
import HandS.ExcInit
import HandS.Words
import HandS.Lambda
import HandS.ExcField
import KE.GoesMore
import HandS.Iter
import HandS.Walk
import HandS.Text
import HandS.Strs
import PyProof.TupleOfSeq
import PyProof.Rows.StrFirst
import PyProof.StrLawsIn
import HandS.ForMost
import HandS.SortKw
import KE.DataMinMax
import KE.DatumOrd
import HandS.IsInst
import HandS.OwnEq
import HandS.FStr
import KE.RegKCallOwn
import KE.KFmtOwn
import PyProof.ReprReads
import PyProof.ReprRoads
import PyProof.ReprLen
import PyProof.Rows.ReprItems
import PyProof.ReprText
import HandS.ForExc
import HandS.EndTab
import HandS.Flow
import HandS.Wide
import HandS.Defaults
import HandS.MakeKw
import HandS.Style
import HandS.TupAny
import KE.RegKSuper
import PySem.Challenge.RW_pulsewright_k04_rules_as_objects
set_option Elab.async false
set_option linter.all false
set_option maxRecDepth 100000
set_option maxHeartbeats 4000000
namespace Pw
open PySem PySem.Spec PyProof.Rows L2

abbrev supScope (f : Str) : Scope := { kind := .function, names := [("self", .local), (f, .local), ("__class__", .free), ("super", .globalImplicit)], isGenerator := false, isCoroutine := false, more := [] }

/-- the body of such an __init__: super().__init__(msg); self.f = f -/
abbrev supBody (msg : Expr) (f : Str) (p0 p1 p2 p3 p4 p5 p6 p7 p8 : Pos) : List Stmt :=
  [.Expr (.Call (.Attribute (.Call (.Name "super" p0) [] [] p1) "__init__" p2) [msg] [] p3) p4,
   .Assign [.Attribute (.Name "self" p5) f p6] (.Name f p7) p8]

/-- its context -/
def supCx (P : Program) (w : World) (K : PySem.W.Frag) (mg : Str → Option Value) (base : Heap) (f : Str) (qual : Str) (fI cda cc : Addr) (A : Around) (outer : List Env) (s : Shared) (H : Hp) : Cx where
  prog := P
  w := w
  K := K
  mg := mg
  base := base
  A := A.deeper (PySem.W.ksEnv qual (supScope f) s.heap.objs.size fI (.ref cda) cc)
  N := ["self", f]
  s_0 := s
  H_0 := H
  env := PySem.W.ksEnv qual (supScope f) s.heap.objs.size fI (.ref cda) cc
  outer := outer
  stack := PySem.W.ksEnv qual (supScope f) s.heap.objs.size fI (.ref cda) cc :: outer
  ex := []
  fn := fun _ => false
  calm := true
  pn := []
  xe := fun _ _ => False

/-- what the written part says of the class at C, its __init__ at fI, the cell at cc, the code object at cda -/
structure SupC (P : Program) (K : PySem.W.Frag) (mg : Str → Option Value) (C fI cc cda : Addr) (f : Str) : Prop where
  oex : OexC K C
  noF : PySem.W.findIn K (.ref C) f = some none
  sub : PySem.W.mroIn K C (.ref C) = some true
  subVE : PySem.W.subIn K (.ref C) (.type "ValueError") = some true
  sup : PySem.W.ks_superIn K C C "__init__" = some (some (.builtin "ValueError.__init__"))
  op : PySem.W.nsIn K cStatics "thirdparty.any" = some none
  code : ∃ ccl cdd vs ccs file tf, K.lookup cda = some ⟨ccl, cdd, .fields vs, ccs⟩ ∧ vs[2]? = some (.str file tf) ∧ ((P.main.file : Str) == file) = true
  cell : ∃ cl cld csl, K.lookup cc = some ⟨cl, cld, .cell (some (.ref C)), csl⟩
  mgS : mg "super" = none
  topS : (P.main.scope.names.lookup ("super" : Str)).isSome = false

/-- the promise of the __init__: the new exception's dict holds the field -/
def spSup (C : Addr) (f : Str) (Okv : V → Prop) : Sp := fun vs H Q _ => ∃ (a : Addr) (v : V), vs = [.ref a, v] ∧ Okv v ∧ H a = some (exo a C none) ∧
  ∀ dx, H dx = none → dx ≠ a → Q .non (upd (upd H dx (exd dx [(f, v)])) a (exo a C (some dx)))

section
variable {P : Program} {w : World} {K : PySem.W.Frag} {mg : Str → Option Value} {base : Heap} {f qual : Str} {C fI cda cc : Addr}
theorem sup_start {A : Around} {outer : List Env} {s : Shared} {H : Hp} {h₁ : Heap} {a : Addr} {v : V} {u : Value} {tk : Nat} (hfs : (f == ("self" : Str)) = false) (hfc : (f == ("__class__" : Str)) = false) (T : SupC P K mg C fI cc cda f) (hd : A.handled = none) (e0 : Env0 P w K mg base A outer s H) (rv : RelV v u)
    (hns : h₁.Ns s.heap.objs.size (fun x => ([("self", Value.ref a), (f, u)] : List (Str × Value)).reverse.lookup x)) (kp : ∀ b o, s.heap.get? b = some o → h₁.get? b = some o) :
    Inv (supCx P w K mg base f qual fI cda cc A outer s H) [] [some (.ref a), some v] H { s with heap := h₁, toks := tk } := by
  obtain ⟨cl, cld, csl, hcell⟩ := T.cell
  have hcb : base.get? cc = some ⟨cl, cld, .cell (some (.ref C)), csl⟩ := e0.mod.kin _ _ hcell
  have hcs := e0.bs _ _ hcb
  have noA : ∀ b : Addr, b ∉ (supCx P w K mg base f qual fI cda cc A outer s H).ex := fun b z => absurd (show b ∈ ([] : List Addr) from z) (by simp)
  have only : ∀ {y : Str} {c : Addr}, ([("__class__", cc)] : List (Str × Addr)).lookup y = some c → y = "__class__" ∧ c = cc := fun {y c} e => by
    by_cases hy : y = "__class__"
    · subst hy
      have e2 : some cc = some c := e
      exact ⟨rfl, (Option.some.inj e2).symm⟩
    · have : (y == ("__class__" : Str)) = false := by simpa using hy
      simp [List.lookup, this] at e
  refine ⟨⟨e0.mod, rfl, rfl, rfl, Nat.le_refl _, fun y z c e1 e2 => ?_, fun y hy => ?_, fun y c z _ => ?_, fun _ => hd, Around.frames_deeper e0.frames, .inr ⟨rfl, rfl⟩, fun b z => absurd z (noA b), e0.bs, e0.bsz, fun b _ _ => noA b,
      fun b z => absurd z (noA b), e0.funs, e0.frf⟩,
    rfl, e0.bare, Un.kept kp, ⟨_, hns, fun i y v' e1 e2 e3 => ?_⟩, fun y c e => ?_, e0.hok.fresh (Nat.le_refl _), fun y c e => ?_, fun q hq => absurd (show q ∈ ([] : List (Addr × Obj)) ++ [] from hq) (by simp), e0.hok.kept kp, rfl⟩
  · exact (only e1).1.trans (only e2).1.symm
  · have hy : (supScope f).names.lookup y = some .cell ∨ (supScope f).names.lookup y = some .free := hy
    have : y = "__class__" := by
      by_cases h1 : y = "self"
      · subst h1
        rcases hy with h | h <;> cases h
      · by_cases h2 : y = f
        · subst h2
          have q1 : (y == ("self" : Str)) = false := hfs
          simp [List.lookup, q1] at hy
        · by_cases h3 : y = "__class__"
          · exact h3
          · have q1 : (y == ("self" : Str)) = false := by simpa using h1
            have q2 : (y == f) = false := by simpa using h2
            have q3 : (y == ("__class__" : Str)) = false := by simpa using h3
            by_cases h4 : y = "super"
            · subst h4
              simp [List.lookup, q1, q2, q3] at hy
            · have q4 : (y == ("super" : Str)) = false := by simpa using h4
              simp [List.lookup, q1, q2, q3, q4] at hy
    subst this
    exact ⟨cc, rfl⟩
  · have z : false = true := z
    cases z
  · match i, e1, e2 with
    | 0, e1, e2 =>
      have e1 : "self" = y := Option.some.inj e1
      have e2 : V.ref a = v' := Option.some.inj (Option.some.inj e2)
      subst e1
      subst e2
      refine ⟨_, rfl, .inl ⟨rfl, ?_⟩⟩
      have q : (("self" : Str) == f) = false := by
        have := hfs
        rw [beq_eq_false_iff_ne] at this ⊢
        exact this.symm
      simp [List.lookup, q]
    | 1, e1, e2 =>
      have e1 : f = y := Option.some.inj e1
      have e2 : v = v' := Option.some.inj (Option.some.inj e2)
      subst e1
      subst e2
      refine ⟨_, rv, .inl ⟨?_, by simp [List.lookup]⟩⟩
      show (supScope f).names.lookup f = some .local
      simp [List.lookup, hfs]
    | n + 2, e1, e2 => simp [supCx] at e1
  · obtain ⟨_, rfl⟩ := only e
    exact ⟨_, _, kp _ _ hcs.1, rfl⟩
  · obtain ⟨_, rfl⟩ := only e
    exact hcs.2

theorem fn_sup {k : Nat} {CX : CXT} {Okv : V → Prop} {name : Str} {ap : Arguments} {mv : List Expr} {pj : Pos} {dV kV doc pm ct oc : Value} {an od : Option Addr} {osl : Array (Option Value)} {p0 p1 p2 p3 p4 p5 p6 p7 p8 : Pos}
    (hfs : (f == ("self" : Str)) = false) (hfc : (f == ("__class__" : Str)) = false) (hfu : (f == ("super" : Str)) = false) (hfd : (f == ("__debug__" : Str)) = false) (hfcd : (f == ("__classdict__" : Str)) = false) (T : SupC P K mg C fI cc cda f)
    (hap : (ap.posonlyargs ++ ap.args).head?.map (·.arg) = some ("self" : Str))
    (lk : K.lookup fI = some ⟨oc, od, .func (PySem.W.ksFn name qual ap (supBody (.JoinedStr mv pj) f p0 p1 p2 p3 p4 p5 p6 p7 p8) (supScope f) dV kV doc pm an (.ref cda) ct cc), osl⟩) (hcd : PySem.W.codeIn K (.ref cda) qual = true)
    (hmsg : ∀ X : Cx, X.N = (["self", f] : List Str) → X.env.scope = supScope f → ∃ tm : TE, PE X (.JoinedStr mv pj) tm ∧ ∀ (a : Addr) (v : V) (H : Hp) (Q : VK), Okv v → (∀ z : Str, Q (.str z) H) → tm [some (.ref a), some v] H Q)
    {pl : Sem Bool} (he : ∀ env : Env, eval (.Call (.Attribute (.Call (.Name "super" p0) [] [] p1) "__init__" p2) [.JoinedStr mv pj] [] p3) env = (do
      let ov ← attributeBase (.Call (.Name "super" p0) [] [] p1) "__init__" env (eval (.Call (.Name "super" p0) [] [] p1) env)
      standAt p2.atName
      let (f, first) ← holding [ov] (getMethod ov "__init__" pl)
      callWith p3 f first (backTo p3 (starEach [.JoinedStr mv pj] env)) [])) :
    FnOk P w K mg base CX (k + 1) fI (PySem.W.ksFn name qual ap (supBody (.JoinedStr mv pj) f p0 p1 p2 p3 p4 p5 p6 p7 p8) (supScope f) dV kV doc pm an (.ref cda) ct cc) ["self", f] (spSup C f Okv) := by
  refine ⟨fun vs H Q E h => ?_, fun A outer s H args us vs Q E hr e0 hb r hsp => ?_⟩
  · obtain ⟨a, v, rfl, _⟩ := h
    rfl
  obtain ⟨a, v, rfl, hv, ha, q⟩ := hsp
  obtain ⟨u1, rfl, rv⟩ : ∃ u1, us = [.ref a, u1] ∧ RelV v u1 := by
    cases r with
    | cons r0 r1 =>
      cases r1 with
      | cons r1 r2 =>
        cases r2
        cases r0
        exact ⟨_, rfl, r1⟩
  have KX : K.In s.heap := e0.mod.kin.keeps fun b o e => (e0.bs b o e).1
  have lim : s.heap.NoLimit := e0.mod.nolimit.keeps fun b o e => (e0.bs b o e).1
  have hfs' : (f == ("self" : Str)) = false := hfs
  refine PySem.ks_codeAny_call_defAt (fd := PySem.W.ksFn name qual ap (supBody (.JoinedStr mv pj) f p0 p1 p2 p3 p4 p5 p6 p7 p8) (supScope f) dV kV doc pm an (.ref cda) ct cc) (body := supBody (.JoinedStr mv pj) f p0 p1 p2 p3 p4 p5 p6 p7 p8) (binds := [("self", .ref a), (f, u1)])
    hr.depth (KX _ _ lk) rfl lim (PySem.W.codeRec_of KX hcd) rfl hb ?_ ?_ (fun h₁ hns kp => ?_) rfl rfl rfl
  · intro x hx
    have hx : x ∈ (supScope f).names := hx
    simp at hx
    rcases hx with rfl | rfl | rfl | rfl <;> simp
  · intro x hx
    simp at hx
    show (supScope f).names.lookup x.1 = some .local
    rcases hx with rfl | rfl
    · rfl
    · simp [List.lookup, hfs']
  have I : Inv (supCx P w K mg base f qual fI cda cc A outer s H) [] [some (.ref a), some v] H { s with heap := h₁, toks := s.toks + 2 } := sup_start hfs hfc T hr.hd e0 rv hns kp
  have KX1 : K.In h₁ := I.kIn
  obtain ⟨t1, hoe⟩ := exo_at I.hok ha
  obtain ⟨nm, qn, N, bs, bm, sn, sub, ab, col, dd, k0, k1, k2, k3, k5, hC, hbm⟩ := T.oex.cls
  have hcl : PySem.W.clsIn K C = some { name := nm, bases := bs, mro := .ref C :: bm, ns := N, qualname := qn, hasDict := true, slotNames := sn, subclasses := sub, abstract := ab, collection := col, hasDel := false } := by unfold PySem.W.clsIn; rw [hC] <;> rfl
  have hC1 := KX1 _ _ hC
  obtain ⟨ccl, cdd, vs, ccs, file, tf, hcode, hvs, hfile⟩ := T.code
  obtain ⟨cl, cld, csl, hcell⟩ := T.cell
  obtain ⟨ar, har, hara⟩ : ∃ ar : Arg, (ap.posonlyargs ++ ap.args).head? = some ar ∧ ar.arg = "self" := by
    cases e : (ap.posonlyargs ++ ap.args).head? with
    | none =>
      rw [e] at hap
      cases hap
    | some ar =>
      rw [e] at hap
      exact ⟨ar, rfl, Option.some.inj hap⟩
  have hInst : PySem.W.InstAt h₁ a { cls := .ref C, dict := none, data := .fields #[.ref t1, .none, .none, .none, .bool false, .none] } C none := ⟨hoe, rfl, rfl, trivial⟩
  have hxC : a ≠ C := PySem.W.ks_ne KX1 hInst hcl
  have sy : ∀ {x y : Str}, (x == y) = false → (y == x) = false := fun {x y} h => by
    rw [beq_eq_false_iff_ne] at h ⊢
    exact h.symm
  have l_super : (supScope f).names.lookup ("super" : Str) = some .globalImplicit := by
    have q1 := sy hfu
    have q2 : (("super" : Str) == ("self" : Str)) = false := by decide
    have q3 : (("super" : Str) == ("__class__" : Str)) = false := by decide
    simp [List.lookup, q1, q2, q3]
  have l_class : (supScope f).names.lookup ("__class__" : Str) = some .free := by
    have q1 := sy hfc
    have q2 : (("__class__" : Str) == ("self" : Str)) = false := by decide
    simp [List.lookup, q1, q2]
  have l_f : (supScope f).names.lookup f = some .local := by simp [List.lookup, hfs']
  obtain ⟨mb, hb1, hb2⟩ := e0.mod.blt
  refine PySem.ks_wpAt_execs_cons (PySem.ks_wpAt_Expr_any (PySem.ks_wpAt_MethodCall (pl := pl) ?_ (he _)) rfl rfl)
  refine PySem.ks_wpAt_super_base (env := PySem.W.ksEnv qual (supScope f) s.heap.objs.size fI (.ref cda) cc) ?ks ?kc rfl rfl (KX1 _ _ lk) rfl har rfl (KX1 _ _ hcode) rfl hvs hfile T.topS ?_
  case ks => exact l_super
  case kc => exact l_class
  refine PySem.W.ks_loadName_global rfl l_super (PySem.Calls.loadGlobal_builtin (env := PySem.W.ksEnv qual (supScope f) s.heap.objs.size fI (.ref cda) cc) (I.mod.glob.keeps I.bk) T.mgS (hb1.keeps I.bk) ((hb2 _ (by decide)).trans PyProof.Rows.Boot.«super») ⟨rfl, ?_⟩)
  refine wpAny_loadName_free rfl l_class rfl ⟨_, KX1 _ _ hcell, rfl⟩ ?_
  rw [hara]
  refine wpAny_loadName_local rfl rfl hns (v := .ref a) ?_ ?_
  · have q := sy hfs
    simp [List.lookup, q]
  refine PySem.ks_wpAny_isType_cls hC1 rfl ⟨rfl, ?_⟩
  refine PySem.ks_wpAny_call_super hC1 rfl hoe rfl (fun c e => by cases e) (PySem.W.looks_mroIn KX1 T.sub) (fun h2 hso k2 => ?_)
  have I2 := I.kept (h' := h2) (t' := s.toks + 2) k2
  have KX2 : K.In h2 := I2.kIn
  have hInst2 : PySem.W.InstAt h2 a { cls := .ref C, dict := none, data := .fields #[.ref t1, .none, .none, .none, .bool false, .none] } C none := ⟨k2 _ _ hoe, rfl, rfl, trivial⟩
  refine PySem.W.kxs_getMethod PySem.W.kxs_ValueError hso (PySem.W.looks_opaque KX2 T.op) (l₀ := .ref C :: bm) ?mro rfl KX2 ?along (hInst2.type.andThen (PySem.W.looks_subIn KX2 T.subVE)) hxC rfl ?_
  case mro => exact fun A Q E s k q => wpAny_bind ((PySem.W.looks_clsIn KX2 hcl) A _ E s k (wpAny_pure q))
  case along =>
    have z := T.sup
    unfold PySem.W.ks_superIn at z
    rw [hcl] at z
    exact z
  have I3 := I2.kept (h' := h2.push (PySem.W.kxs_mw "ValueError.__init__" a)) (t' := s.toks + 2 + 1) (fun b o e => Heap.get?_push_of_some _ e)
  have hsz : H h2.objs.size = none := I2.hok.fresh (Nat.le_refl _)
  have I4 := I3.pins_of (pins' := [(h2.objs.size, PySem.W.kxs_mw "ValueError.__init__" a)]) (fun p hp => by
    obtain rfl : p = (h2.objs.size, PySem.W.kxs_mw "ValueError.__init__" a) := by simpa using hp
    exact ⟨Heap.get?_push_at rfl rfl, hsz, Nat.ne_of_gt I2.lt, I2.nofs (Nat.le_refl _), fun v z => by cases z⟩)
  obtain ⟨tm, hpe, htm⟩ := hmsg (supCx P w K mg base f qual fI cda cc A outer s H) rfl rfl
  refine PySem.W.kxs_callWith (i := "ValueError.__init__") (x := a) rfl (PySem.Calls.evalArgs_plain ?_)
  refine wpAny_mono ((pa_cons hpe pa_nil).run p3 _ _ _ H (fun vs H1 => (∃ z, vs = [.str z]) ∧ H1 = H) I4 (htm a v H _ hv fun z => ⟨⟨z, rfl⟩, rfl⟩)) (fun us s5 hq5 => ?_) (fun _ _ z => z.elim)
  obtain ⟨vs5, H1, I5, r5, ⟨z, ev⟩, eH⟩ := hq5
  rw [eH] at I5
  have hu := (I5.pin (h2.objs.size, PySem.W.kxs_mw "ValueError.__init__" a) (by simp)).1
  refine ⟨hu, ?_⟩
  obtain ⟨hp5, g5, d5, t5, os5⟩ := s5
  obtain ⟨t6, hoe5⟩ := exo_at I5.hok ha
  have hC5 := I5.kIn _ _ hC
  have hz5 : us.length ≤ sizeLine := by
    rw [← Paired.length r5, ev, sizeLine_eq]
    exact Nat.le_trans (Nat.le_refl 1) (by omega)
  refine wpAny_call (codeAny_of_tree ?_)
  show wpAny _ _ (callAny (.ref h2.objs.size) ⟨us, []⟩) _ _ _
  simp only [callAny]
  refine wpAny_bind (wpAny_load hu ?_)
  simp only [PySem.W.kxs_mw, show (Value.type "method-wrapper" == Value.type "method" || Value.type "method-wrapper" == Value.type "builtin_function_or_method" || Value.type "method-wrapper" == Value.type "method-wrapper") = true by decide, if_true]
  refine PySem.W.KFB.if_so (by decide) ?_
  refine wpAny_bind (PySem.W.check_bound_init PySem.F.excBase_ValueError.toExcCallFacts hC5 hoe5 rfl ?_)
  refine wpAny_bind (wpAny_pure (wpAny_pure ?_))
  refine ⟨plainId_quiet PySem.F.excBase_ValueError.init.plain _, codeAny_builtin PySem.F.excBase_ValueError.initEntry ?_⟩
  refine PySem.W.exc_init_tree (cls := .ref C) (t0 := t6) (dv := none) (c2 := .none) (c3 := .none) (b4 := .bool false) hoe5 hz5 (fun h6 k6 e6 _ => ?_)
  have J0 := I5.write (h' := h6) (t' := t5) (x := a) (e := a) (o := exo a C none) (by rw [ha]; exact True.intro) (.inl rfl) k6 ⟨_, e6⟩ (exo_ok e6)
  have eu : upd H a (exo a C none) = H := by
    funext b
    by_cases hb : b = a
    · rw [hb, upd_same, ha]
    · rw [upd_ne hb]
  rw [eu] at J0
  have J := J0.pins_of (pins' := []) (fun p hp => by cases hp)
  have ps : PSs (supCx P w K mg base f qual fI cda cc A outer s H) [.Assign [.Attribute (.Name "self" p5) f p6] (.Name f p7) p8] _ := pss_one (ps_ost (pe_var (i := 0) (x := "self") rfl (.inl rfl) (by decide) (by decide)) (pe_var (i := 1) (x := f) rfl (.inl l_f) hfd hfcd))
  show PySem.wpAt _ _ _ (execs [.Assign [.Attribute (.Name "self" p5) f p6] (.Name f p7) p8] _) _ _ _
  refine wpAt_of_wpAny (wpAny_mono (ps.run [] _ _ H { nx := fun _ H' => Q .non H', rt := fun _ _ => False } J ⟨v, rfl, .ref a, rfl, a, C, rfl, T.oex, T.noF, .inl ⟨ha, fun dx n ne => q dx n ne⟩⟩) (fun fl s' hs => ?_) (fun _ _ z => z.elim))
  cases fl with
  | next =>
    obtain ⟨σ', H', J', q'⟩ := hs
    exact ⟨.non, H', J'.os, J'.bare, J'.base, J'.hok, rfl, q'⟩
  | ret u =>
    obtain ⟨_, _, _, _, _, z⟩ := hs
    exact z.elim
  | brk =>
    obtain ⟨_, _, _, z⟩ := hs
    exact z.elim
  | cont =>
    obtain ⟨_, _, _, z⟩ := hs
    exact z.elim
end
end Pw
namespace Pw
open PySem PySem.Spec PyProof.Rows L2
/-- an own error class x with the field f: all that raising and catching it asks -/
structure ErrOk (P : Program) (w : World) (K : PySem.W.Frag) (mg : Str → Option Value) (base : Heap) (x f : Str) (C : Addr) (Okv : V → Prop) : Prop where
  oex : OexC K C
  mgC : mg x = some (.ref C)
  ini : ∃ (fI : Addr) (fd : FuncData), FnOk P w K mg base CX0 1 fI fd ["self", f] (spSup C f Okv) ∧ Binds K fd ["self", f] [] ∧ PySem.W.findIn K (.ref C) "__init__" = some (some (.ref fI)) ∧ PySem.W.typeIn K (.ref fI) = some (.type "function")
theorem pmk_err {X : Cx} {x f : Str} {C : Addr} {Okv : V → Prop} {e : Expr} {te : TE} {p pos : Pos} (T : ErrOk X.prog X.w X.K X.mg X.base x f C Okv) (hr : Room 2 X.A) (hg : Gl X x) (he : PE X e te) (hs : starEach [e] X.env = [(false, eval e X.env)] := by rfl)
    (hdb : (x == ("__debug__" : Str)) = false := by decide) : PMk X (.Call (.Name x p) [e] [] pos) (tMkO C (spSup C f Okv) [] (tCons te tNil)) := by
  obtain ⟨fI, fd, F1, hb, iC, tI⟩ := T.ini
  exact pmk_oex (dvs := []) T.oex iC tI F1 hr hb .nil (fun _ _ _ _ _ _ _ z => z.elim) hg T.mgC (pa_cons he pa_nil hs) hdb hs rfl
/-- the reading's end: the argument is v -/
theorem err_read {C : Addr} {f : Str} {Okv : V → Prop} {Q : XK} {v : V} {H1 : Hp} (hv : Okv v) (hq : ∀ d H2, Same H1 H2 → H1 d = none → H2 d = some (.xd [(f, v)]) → Q (.ref C) (some d) H2) :
    ([v] : List V).length ≤ 1000 ∧ ∀ a, H1 a = none → spSup C f Okv (.ref a :: ([v] ++ [])) (upd H1 a (exo a C none))
      (fun v2 H2 => v2 = .non ∧ ∃ (d : Addr) (fs : List (Str × V)), H2 a = some (exo a C (some d)) ∧ H2 d = some (exd d fs) ∧ H1 d = none ∧ Q (.ref C) (some d) (upd (del H2 a) d (.xd fs))) (fun _ _ _ => False) := by
  refine ⟨by show 1 ≤ 1000; decide, fun a na => ⟨a, v, rfl, hv, upd_same, fun dx nd ne => ⟨rfl, dx, [(f, v)], upd_same, ?_, ?_, ?_⟩⟩⟩
  · rw [upd_ne ne, upd_same]
  · rw [upd_ne ne] at nd
    exact nd
  · have nd1 : H1 dx = none := by
      rw [upd_ne ne] at nd
      exact nd
    refine hq dx _ (fun b o e => ?_) nd1 upd_same
    have b1 : b ≠ a := ne_of_none e na
    have b2 : b ≠ dx := ne_of_none e nd1
    rw [upd_ne b2, del_ne b1, upd_ne b1, upd_ne b2, upd_ne b1]
    exact e
end Pw

set_option Elab.async false
set_option linter.all false
set_option maxRecDepth 100000
set_option maxHeartbeats 2000000
namespace Pw
open PySem PySem.Spec PyProof.Rows L2
/-- the ends within a clause whose name is slot i -/
def asEnds (D : Ends) (i : Nat) : Ends := { nx := fun τ G => D.nx (τ.set i none) G, rt := D.rt, bk := fun τ G => D.bk (τ.set i none) G, ct := fun τ G => D.ct (τ.set i none) G }
/-- several clauses, each `except x as n`, n in slot i -/
def wAll (K : PySem.W.Frag) (i : Nat) (Wo : WX) (D : Ends) : List (Value × (Addr → Value → Option Addr → TS)) → WX
  | [] => Wo
  | (c, ts) :: r => fun cls dd τ G => ∃ b, PySem.W.exmOne K cls c = some b ∧ (b = true → ∀ a, G a = none → ts a cls dd (asEnds D i) (τ.set i (some (.ref a))) G) ∧ (b = false → wAll K i Wo D r cls dd τ G)
inductive AsOk (X : Cx) (n : Str) : List ExceptHandler → List (Value × (Addr → Value → Option Addr → TS)) → Prop
  | nil : AsOk X n [] []
  | cons {x : Str} {c : Value} {ts : Addr → Value → Option Addr → TS} {b0 : Stmt} {su : List Stmt} {p1 p2 : Pos} {hs : List ExceptHandler} {l : List (Value × (Addr → Value → Option Addr → TS))} (hc : Names X x c)
      (hsu : ∀ (a : Addr) (oe : Obj) (cls : Value) (dd : Option Addr) (pn : List (Addr × Obj)), Zc cls dd oe → (∃ vs, oe.data = .fields vs) → PSs (X.suite a ((a, oe) :: pn)) (b0 :: su) (ts a cls dd)) (r : AsOk X n hs l) :
      AsOk X n (.ExceptHandler (some (.Name x p1)) (some n) (b0 :: su) p2 :: hs) ((c, ts) :: l)
section
variable {X : Cx} {n : Str} {i : Nat} {body : List Stmt} {h0 : ExceptHandler} {hds : List ExceptHandler} {l : List (Value × (Addr → Value → Option Addr → TS))} {pos : Pos} {tb : WX → TS} {Wo : WX}
theorem ps_tryAll (hs : X.stack = X.env :: X.outer) (hf : X.env.frame = some X.env.locals) (hN : X.N.Nodup) (hi : X.N[i]? = some n) (hln : X.env.kindOf n = some .local) (tk : Takes X Wo)
    (hb : ∀ (W : WX) (pn : List (Addr × Obj)) (xe : Value → Shared → Prop), Takes (X.tr pn xe) W → PassesOwn (model X.prog X.w) X.A X.env xe → PSs (X.tr pn xe) body (tb W))
    (hh : AsOk X n (h0 :: hds) l) : PS X (.Try body (h0 :: hds) [] [] pos) (fun D τ G => tb (wAll X.K i Wo D l) D τ G) := by
  refine ⟨fun pns s τ G D I h => ?_⟩
  have xok := I.ok
  have xfr : X.A.frames = some (X.env :: X.outer) := by rw [xok.frames, hs]
  have xloc : Loc X.env.scope n := .inl hln
  refine wpAny_Try_except (wpAny_mono ((hb (wAll X.K i Wo D l) (X.pn ++ pns) (fun e s1 => wpAny (model X.prog X.w) X.A (noteFrame e X.env) (fun _ s2 => wpAny (model X.prog X.w) X.A (setFlight e none) (fun _ s3 =>
    wpAny (model X.prog X.w) X.A (handleBy e X.env (h0 :: hds)) (SP X pns D) X.xe s3) X.xe s2) X.xe s1) (fun u s' xx => ?_) PassesOwn.looking).run [] s τ G D (I.toTry _) h) (fun f s1 hsp => ?_) (fun e s1 he => he))
  · obtain ⟨a, B, sI, pns', τ', G', cls, dd, rfl, Jt, nb, up, sky, na, os, ag, ww⟩ := xx
    have J : Inv X pns τ' G' sI := Jt.ofTry xok
    have sky1 : Sky B (X.env :: X.outer) a (Zc cls dd) X.env.locals s'.heap := by rw [← hs]; exact sky
    show wpAny (model X.prog X.w) X.A (noteFrame (.ref a) X.env) _ _ _
    refine Sky.land Zc.steady xfr hf sky1 fun k3 fl3 up3 => ?_
    have J3 : Inv X pns τ' G' { s' with heap := k3 } := J.landed nb fl3.1 (up.trans up3) os ag
    obtain ⟨ob3, vs3, he3, hz3, hd3⟩ := fl3.there
    have nfr : a ∉ frs (X.env :: X.outer) := fun hm => by
      obtain ⟨_, oo, ee, hnf⟩ := fl3.2.2.1.mem hm
      rw [he3] at ee
      cases ee
      exact hnf _ hd3
    have nL : a ≠ X.env.locals := fun z => nfr (List.mem_filterMap.mpr ⟨X.env, List.mem_cons_self, by rw [hf, z]⟩)
    have nF : a ∉ X.fs := fun hm => by
      obtain ⟨e, he, qq⟩ := List.mem_filterMap.mp hm
      exact nfr (List.mem_filterMap.mpr ⟨e, List.mem_cons_of_mem _ he, qq⟩)
    have S3 := J3.suite he3 hd3 na nL nF
    have go : ∀ {hs' : List ExceptHandler} {l' : List (Value × (Addr → Value → Option Addr → TS))}, AsOk X n hs' l' → wAll X.K i Wo D l' cls dd τ' G' →
        wpAny (model X.prog X.w) X.A (handleBy (.ref a) X.env hs') (SP X pns D) X.xe { s' with heap := k3 } := by
      intro hs' l' hk
      induction hk with
      | nil =>
        intro ww
        refine wpAny_handleBy_nil ?_
        obtain ⟨_, _, _, ob, vs, T, oT, ts', he, hz, hd, h1, hr⟩ := id fl3
        unfold PySem.passOn
        refine wpAny_bind (wpAny_field he hd h1 ?_)
        rw [if_neg (show ¬ ((Value.ref T == Value.none) = true) from by simp)]
        have fin : wpAny (model X.prog X.w) X.A (setFlight (.ref a) X.env.frame) (fun _ s4 => wpAny (model X.prog X.w) X.A (throw (.ref a) : Sem Flow) (SP X pns D) X.xe s4) X.xe { s' with heap := k3 } := by
          rw [hf]
          exact HandSPX.setFlight_upZ fl3 fun k4 hh4 up4 => wpAny_throw (tk _ _ ⟨a, B, sI, pns, τ', G', cls, dd, rfl, J, nb, (up.trans up3).trans up4, .inr (.inr (by rw [hs]; exact hh4)), na, os, ag, ww⟩)
        first
          | exact wpAny_bind (wpAny_pure (wpAny_bind fin))
          | exact wpAny_bind fin
      | @cons x c ts b0 su p1 p2 hs2 l2 hc hsu r ih =>
        intro ww
        obtain ⟨b, hb1, hyes, hno⟩ := ww
        refine wpAny_handleBy_cons (codeAny_handlers_test ?_) (by intro q; cases q)
        have LT : PySem.W.Looks (model X.prog X.w) k3 (typeOf (.ref a)) cls := fun A Q E s k q => wpAny_typeOf_ref (k _ _ he3) (by rw [hz3.1]; exact q)
        have LM := PySem.W.exm_one (M := model X.prog X.w) (J3.kIn) LT hb1
        have test : ∀ {Q : Value → Shared → Prop} {E : Value → Shared → Prop}, Q c { s' with heap := k3 } → wpAny (model X.prog X.w) (X.A.mark (some (.ref a))) (eval (.Name x p1) X.env) Q E { s' with heap := k3 } := fun {Q E} q => by
          obtain ⟨hg, hdbg, hm | ⟨hm, hv, hnn⟩⟩ := hc
          · exact ld_glob (X := X.suite a ((a, ob3) :: (X.pn ++ pns))) S3 hg hm q hdbg
          · exact ld_blt (X := X.suite a ((a, ob3) :: (X.pn ++ pns))) S3 hg hm hv q hnn hdbg
        refine test (LM.here ?_)
        cases b with
        | true =>
          refine codeAny_handlers_suite_as ?_
          refine HandSPX.lands_againZ fl3 fun k4 fl4 up4 => ?_
          have J4 : Inv X pns τ' G' { s' with heap := k4 } := J.landed nb fl4.1 ((up.trans up3).trans up4) os ag
          obtain ⟨ob4, vs4, he4, hz4, hd4⟩ := fl4.there
          have S4 := J4.suite he4 hd4 na nL nF
          refine store_ok (X := X.suite a ((a, ob4) :: (X.pn ++ pns))) (v := .ref a) S4 hN hi xloc rfl (fun s5 S5 => ?_) (.inr hln)
          refine wpAny_mono ((hsu a ob4 cls dd (X.pn ++ pns) hz4 ⟨_, hd4⟩).run [] s5 _ G' _ S5 (hyes rfl a na)) (fun f s6 hsp => ?_) (fun _ _ z => False.elim z)
          have en : ∀ {τ6 : L2.St} {G6 : Hp} {Q : Shared → Prop}, Inv (X.suite a ((a, ob4) :: (X.pn ++ pns))) [] τ6 G6 s6 → (∀ s7, Inv X pns (τ6.set i none) G6 s7 → Q s7) →
              wpAny (model X.prog X.w) X.A (do bindName X.env n .none; unbindBehindTheSuite X.env n p2) (fun _ s7 => Q s7) X.xe s6 := fun {τ6 G6 Q} S6 hq => gone_ok (S6.unsuite xok) hN hi hln hq
          cases f with
          | next =>
            obtain ⟨τ6, G6, S6, q6⟩ := hsp
            exact en S6 fun s7 J7 => ⟨_, _, J7, q6⟩
          | brk =>
            obtain ⟨τ6, G6, S6, q6⟩ := hsp
            exact en S6 fun s7 J7 => ⟨_, _, J7, q6⟩
          | cont =>
            obtain ⟨τ6, G6, S6, q6⟩ := hsp
            exact en S6 fun s7 J7 => ⟨_, _, J7, q6⟩
          | ret u =>
            obtain ⟨v6, τ6, G6, S6, r6, q6⟩ := hsp
            exact en S6 fun s7 J7 => ⟨_, _, _, J7, r6, q6⟩
        | false =>
          show wpAny _ X.A (handleBy (.ref a) X.env hs2) _ _ _
          exact ih (hno rfl)
    exact go hh ww
  · cases f with
    | next =>
      obtain ⟨τ', G', Jt, q⟩ := hsp
      exact wpAny_execs_nil ⟨τ', G', Jt.ofTry xok, q⟩
    | brk =>
      obtain ⟨τ', G', Jt, q⟩ := hsp
      exact ⟨τ', G', Jt.ofTry xok, q⟩
    | cont =>
      obtain ⟨τ', G', Jt, q⟩ := hsp
      exact ⟨τ', G', Jt.ofTry xok, q⟩
    | ret u =>
      obtain ⟨v, τ', G', Jt, r, q⟩ := hsp
      exact ⟨v, τ', G', Jt.ofTry xok, r, q⟩
end
end Pw

set_option Elab.async false
set_option linter.all false
set_option maxRecDepth 100000
set_option maxHeartbeats 2000000
namespace Pw
open PySem PySem.Spec PyProof.Rows L2 LamX
section
variable {X : Cx} {pins : List (Addr × Obj)} {σ : L2.St} {H HZ : Hp} {s s1 : Shared}
/-- x() in the def that got the lambda; what the lambda lets out is wished for at the slots as they stand -/
theorem pe_actW {CXg : CXT} {Eg : XK} {Ng : List Str} {qg : Str} {sg : Scope} {g f c' : Addr} {cdg pm ctv : Value} {params : Arguments} {body : Expr} {scope : Scope} {k i : Nat} {a : Str} {pn : List (Addr × Obj)} {xe : Value → Shared → Prop} {W : WX} {tb : XK → TE} {p1 p2 : Pos}
    (I : Inv X pins σ H s) (L : LamS X.env.scope scope) (hf : s.heap.get? f = some (PySem.W.kla_obj "<lambda>" (X.env.qual ++ "<lambda>") params body scope (cloFrom X.env.cells scope.names []) pm c' ctv)) (hfn : H f = none) (hfr : f ∉ frs X.stack)
    (hbind : bindArgs (PySem.W.kla_fn "<lambda>" (X.env.qual ++ "<lambda>") params body scope (cloFrom X.env.cells scope.names []) pm (.ref c') ctv) ⟨[], []⟩ = pure [])
    (tk : Takes ((cxOf CXg X.prog X.w X.K X.mg X.base Ng qg sg g cdg X.A X.stack s H Eg).tr pn xe) W) (hr : Room (k + 1) (X.A.deeper (envOfC qg sg s.heap.objs.size g cdg)))
    (hbody : ∀ (A : Around) (outer : List Env) (s : Shared) (H : Hp) (E : XK), Room k (A.deeper (lamEnv X scope s.heap.objs.size f c')) → PE (lamCx X A outer s H E scope f c') body (tb E))
    (hN : Ng[i]? = some a) (hv : Vis sg a) (hd : (a == ("__debug__" : Str)) = false := by decide) (hcd : (a == ("__classdict__" : Str)) = false := by decide) :
    PE ((cxOf CXg X.prog X.w X.K X.mg X.base Ng qg sg g cdg X.A X.stack s H Eg).tr pn xe) (.Call (.Name a p1) [] [] p2)
      (fun σZ HZ Q => ∃ (E : XK) (Q' : VK), (∀ cls dd G, E cls dd G → W cls dd σZ G) ∧ (∀ v G, Q' v G → Q v G) ∧ σZ[i]? = some (some (.ref f)) ∧ HZ c' = some (CodeO c' (X.env.qual ++ "<lambda>")) ∧ tb E σ HZ Q') := by
  refine ⟨fun pZ sZ σZ HZ Q IZ h => ?_⟩
  obtain ⟨E, Q', hE, hQ, hs, hc, ht⟩ := h
  refine wpAny_Call_Name_kw (thn ((pe_var (pos := p1) (i := i) hN hv hd hcd).run pZ sZ σZ HZ (fun v H1 => v = .ref f ∧ H1 = HZ) IZ ⟨.ref f, hs, rfl, rfl⟩) fun u s1 ⟨v, H1, I1, r1, q1⟩ => ?_)
  obtain ⟨ev, eH⟩ := q1
  subst ev
  rw [eH] at I1
  obtain rfl : u = Value.ref f := r1
  have of1 : s1.heap.get? f = some (PySem.W.kla_obj "<lambda>" (X.env.qual ++ "<lambda>") params body scope (cloFrom X.env.cells scope.names []) pm c' ctv) := I1.base.keep f _ hf hfn hfr (fun z => nomatch (show f ∈ ([] : List Addr) from z))
  refine PySem.W.callWith_F0 ⟨_, _, _, _, of1⟩ ?_
  have un1 : Un (frs X.stack) [] H HZ s.heap s1.heap := I1.base
  obtain ⟨⟨oc, vs, t, hoc, hdc, hvc⟩, _, _⟩ := I1.hok c' _ hc
  have rc : codeAny (model X.prog X.w) (X.A.deeper (envOfC qg sg s.heap.objs.size g cdg)) (.call (.ref f) ⟨[], []⟩) (CR (L2.CX X.prog X.w) (envOfC qg sg s.heap.objs.size g cdg :: X.stack) X.prog X.w HZ s1 Q' E) s1 := by
    refine PySem.W.kla_callFunE hr.depth of1 rfl L.co L.gen rfl ⟨c', oc, vs, t, rfl, hoc, hdc, hvc⟩ ?_
    rw [hbind]
    refine wpAny_pure (wpAny_newFunctionEnv (fun y hy => (L.own y hy).2) (fun y hy => absurd hy (by simp)) (fun h₁ hns hsb => ⟨I1.nolimit.fresh _ hsb, ?_⟩) L.kind)
    show codeAny _ _ (.expr body (lamEnv X scope s1.heap.objs.size f c')) _ _
    have kp : ∀ b o, s1.heap.get? b = some o → h₁.get? b = some o := fun b o e => hsb.extBut b o (Nat.ne_of_lt (Heap.lt_size e)) (Heap.get?_push_of_some _ e)
    have J : Inv (lamCx X (X.A.deeper (envOfC qg sg s.heap.objs.size g cdg)) (envOfC qg sg s.heap.objs.size g cdg :: X.stack) s1 HZ E scope f c') [] σ HZ { s1 with heap := h₁, toks := s1.toks + ([] : List (Str × Value)).length } := lam_start2 I L I1.env0 hr.hd un1 hns kp
    refine PySem.W.kla_codeExpr (wpAny_mono ((hbody _ _ s1 HZ E (hr.deeper _)).run [] _ _ HZ Q' J ht) (fun v s' hq => ?_) fun e s' hq => hq)
    obtain ⟨w', G, J', rv, q⟩ := hq
    exact ⟨w', G, J'.os, J'.bare, J'.base, J'.hok, rv, q⟩
  refine wpAny_call (codeAny_mono rc fun r s' hq => ?_)
  cases r with
  | error e => exact tk e s' (XE.of_call I1 hE hq)
  | ok fl =>
    cases fl with
    | ret u =>
      obtain ⟨v, G, J, rv, q⟩ := I1.after hq
      exact ⟨v, G, J, rv, hQ v G q⟩
    | next => exact False.elim hq
    | brk => exact False.elim hq
    | cont => exact False.elim hq
end
/-- the def g(a) that calls what it got -/
def GivesW (X : Cx) (Ng : List Str) (x : Str) (sg : Scope) (g : Addr) (cdg : Value) (bg : List Stmt) (a : Str) (q : Str) (TT : (XK → Hp → VK → Prop) → Hp → VK → Prop) : Prop :=
  ∀ (f c' : Addr) (s : Shared) (H : Hp) (Q : VK) (tl : XK → Hp → VK → Prop),
    (∀ (W : WX) (pn : List (Addr × Obj)) (xe : Value → Shared → Prop) (p1 p2 : Pos), Takes ((cxOf C8.CX0 X.prog X.w X.K X.mg X.base Ng x sg g cdg X.A X.stack s H C8.E0).tr pn xe) W →
      PE ((cxOf C8.CX0 X.prog X.w X.K X.mg X.base Ng x sg g cdg X.A X.stack s H C8.E0).tr pn xe) (.Call (.Name a p1) [] [] p2)
        (fun σZ HZ Q => ∃ (E : XK) (Q' : VK), (∀ cls dd G, E cls dd G → W cls dd σZ G) ∧ (∀ v G, Q' v G → Q v G) ∧ σZ[0]? = some (some (.ref f)) ∧ HZ c' = some (CodeO c' q) ∧ tl E HZ Q')) →
    H c' = some (CodeO c' q) → TT tl H Q →
    ∃ t, PSs (cxOf C8.CX0 X.prog X.w X.K X.mg X.base Ng x sg g cdg X.A X.stack s H C8.E0).nox bg t ∧ t { nx := fun _ G => Q .non G, rt := Q } (L2.start Ng [.ref f]) H
section
variable {X : Cx}
/-- g(lambda: body) -/
theorem pe_lamW {T : List (Addr × Str)} {TT : (XK → Hp → VK → Prop) → Hp → VK → Prop} {x a : Str} {g c P : Addr} {k : Nat} {pg : Arguments} {bg : List Stmt} {sg : Scope} {dV kV doc pm cdv ct oc : Value} {an od : Option Addr} {osl : Array (Option Value)} {Ng : List Str}
    {params : Arguments} {body : Expr} {scope : Scope} {t : XK → TE} {p lpos pos : Pos} (hg : Gl X x) (hm : X.mg x = some (.ref g)) (hk : PySem.W.keepIn X.K (.ref g) = true)
    (lk : X.K.lookup g = some ⟨oc, od, .func (PySem.W.fnOf x x pg bg sg dV kV doc pm an cdv ct), osl⟩) (hcg : PySem.W.codeIn X.K cdv x = true) (hb : L2.Binds X.K (PySem.W.fnOf x x pg bg sg dV kV doc pm an cdv ct) [a] []) (Sg : FnScope Ng [a] sg) (hNg : Ng[0]? = some a) (hva : Vis sg a)
    (hG : GivesW X Ng x sg g cdv bg a (X.env.qual ++ "<lambda>") TT)
    (TB : TabB X.base X.mg c P) (hcode : X.env.code = .ref c) (hmT : (P, X.env.qual ++ "<lambda>") ∈ T) (hu : ∀ p ∈ T, p.1 = P → p.2 = X.env.qual ++ "<lambda>") (hr : Room (k + 2) X.A) (L : LamS X.env.scope scope) (hdef : defaultsOf params X.env = ([], []))
    (hbind : ∀ (q : Str) (cl : List (Str × Addr)) (pm cv ctv : Value), bindArgs (PySem.W.kla_fn "<lambda>" q params body scope cl pm cv ctv) ⟨[], []⟩ = pure [])
    (hbody : ∀ (A : Around) (outer : List Env) (s : Shared) (H : Hp) (E : XK) (f c' : Addr), Room k (A.deeper (lamEnv X scope s.heap.objs.size f c')) → PE (lamCx X A outer s H E scope f c') body (t E))
    (hdb : (x == ("__debug__" : Str)) = false := by decide) (hd : (a == ("__debug__" : Str)) = false := by decide) (hcd : (a == ("__classdict__" : Str)) = false := by decide) :
    PE X (.Call (.Name x p) [.Lambda params body scope lpos] [] pos) (tLam T TT t) := by
  refine ⟨fun pns s τ G Q I h => ?_⟩
  obtain ⟨hT, h⟩ := h
  refine wpAny_Call_Name_kw (ld_glob I hg hm (PySem.W.callWith_K (h₀ := X.base) I.ok.mod.kin hk ?_ (by rfl) (by rfl)) hdb)
  show wpAny _ _ (spliced ((false, eval (.Lambda params body scope lpos) X.env) :: backTo pos (starEach [] X.env))) _ _ s
  refine Calls.spliced_cons (lam_make2 I TB hcode hmT hu hT hdef (L.has I.ok) fun f c' pm' ctv H1 s' I1 eN T1 hf hfn hfr hco => Calls.spliced_nil ⟨I1.kIn, ?_⟩)
  have rc : codeAny (model X.prog X.w) X.A (.call (.ref g) ⟨[.ref f], []⟩) (CR C8.CX0 X.stack X.prog X.w H1 s' Q C8.E0) s' := by
    refine run_ofS (N := Ng) (ps := [a]) (us := [.ref f]) (vs := [.ref f]) lk hcg Sg hr I1.env0 (hb s' [.ref f] I1.kIn rfl) (.cons rfl .nil) rfl fun hr' => ?_
    obtain ⟨t', ht', hq'⟩ := hG f c' s' H1 Q (fun E G' Q' => t E τ G' Q') (fun W pn xe p1 p2 tk => pe_actW (i := 0) I1 L hf hfn hfr (hbind _ _ _ _ _) tk hr' (fun A outer s H E hr2 => hbody A outer s H E f c' hr2) hNg hva hd hcd) hco (h H1 eN T1)
    exact ⟨t', ht'.nox, hq'⟩
  refine wpAny_call (codeAny_mono rc fun r s2 hq => ?_)
  cases r with
  | error e => exact (show False from hq).elim
  | ok fl =>
    cases fl with
    | ret u => exact I1.after hq
    | next => exact False.elim hq
    | brk => exact False.elim hq
    | cont => exact False.elim hq
/-- behind the try of why: return (told, word) -/
def whyEnds (Q : VK) : Ends := { nx := tRet (tTup (tCons (tVar 1) (tCons (tVar 2) tNil))) { nx := fun _ G => Q .non G, rt := Q }, rt := Q }
/-- told = None; word = ''; try: told = a() / except .. as e: ..; return (told, word) -/
def TTwhy (K : PySem.W.Frag) (l : List (Value × (Addr → Value → Option Addr → TS))) : (XK → Hp → VK → Prop) → Hp → VK → Prop := fun tl H Q =>
  ∃ (E : XK) (Q' : VK), (∀ (f : Addr) cls dd G, E cls dd G → wAll K 3 (fun _ _ _ _ => False) (whyEnds Q) l cls dd [some (.ref f), some .non, some (.str ""), none] G) ∧
    (∀ v G, Q' v G → ∀ p, G p = none → Q (.ref p) (upd G p (.tup [v, .str ""]))) ∧ tl E H Q'
theorem why_gives {x a tn wn en q : Str} {sg : Scope} {g : Addr} {cdg : Value} {j1 j2 : Nat} {j3 : Nat} {h0 : ExceptHandler} {hds : List ExceptHandler} {l : List (Value × (Addr → Value → Option Addr → TS))} {p1 p2 p3 p4 p5 p6 p7 p8 p9 p10 p11 p12 p13 p14 p15 : Pos}
    (S : FnScope [a, tn, wn, en] [a] sg) (k1 : sg.names.lookup tn = some .local) (k2 : sg.names.lookup wn = some .local) (k3 : sg.names.lookup en = some .local)
    (d1 : (tn == ("__debug__" : Str)) = false) (d2 : (tn == ("__classdict__" : Str)) = false) (d3 : (wn == ("__debug__" : Str)) = false) (d4 : (wn == ("__classdict__" : Str)) = false)
    (hcl : ∀ (s : Shared) (H : Hp), AsOk (cxOf C8.CX0 X.prog X.w X.K X.mg X.base [a, tn, wn, en] x sg g cdg X.A X.stack s H C8.E0).nox en (h0 :: hds) l) :
    GivesW X [a, tn, wn, en] x sg g cdg [.Assign [.Name tn p1] (.Constant .none j1 p2) p3, .Assign [.Name wn p4] (.Constant (.str "") j2 p5) p6, .Try [.Assign [.Name tn p7] (.Call (.Name a p8) [] [] p9) p10] (h0 :: hds) [] [] p11, .Return (some (.Tuple [.Name tn p12, .Name wn p13] j3 p14)) p15] a q (TTwhy X.K l) := by
  intro f c' s H Q tl act hc h
  obtain ⟨E, Q', hE, hQ, h⟩ := h
  refine ⟨_, pss_cons (ps_set (i := 1) S.nd rfl (.inl k1) pe_non) (pss_cons (ps_set (i := 2) S.nd rfl (.inl k2) pe_str)
    (pss_cons (ps_tryAll (i := 3) (n := en) (Wo := fun _ _ _ _ => False) (tb := fun W => tAsg (fun σZ HZ Q => ∃ (E : XK) (Q' : VK), (∀ cls dd G, E cls dd G → W cls dd σZ G) ∧ (∀ v G, Q' v G → Q v G) ∧ σZ[0]? = some (some (.ref f)) ∧ HZ c' = some (CodeO c' q) ∧ tl E HZ Q') (gName 1)) rfl rfl S.nd rfl k3
      (fun _ _ z => by obtain ⟨_, _, _, _, _, _, _, _, _, _, _, _, _, _, _, _, z⟩ := z; exact z.elim)
      (fun W pn xe tk _ => pss_one (ps_set (i := 1) S.nd rfl (.inl k1) (act W pn xe p8 p9 tk))) (hcl s H))
    (pss_one (ps_ret (pe_tup (pa_cons (pe_var (i := 1) rfl (.inl k1) d1 d2) (pa_cons (pe_var (i := 2) rfl (.inl k2) d3 d4) pa_nil))))))), ?_⟩
  refine ⟨E, Q', fun cls dd G e => hE f cls dd G e, fun v G q => ?_, rfl, hc, h⟩
  exact ⟨v, rfl, .str "", rfl, by show 2 ≤ sizeLine; decide, fun p hp => hQ v G q p hp⟩
end
end Pw

set_option Elab.async false
set_option linter.all false
set_option maxRecDepth 100000
set_option maxHeartbeats 2000000
namespace Pw
open PySem PySem.Spec PyProof.Rows L2
/-- enumerate(text): each sign in a new pair with its place -/
def Ites (x : Str) : It := ⟨fun i _ => i < x.cps.size, fun i H v H' => ∃ T c, v = .ref T ∧ H T = none ∧ x.cps[i]? = some c ∧ H' = upd H T (.tup [.int (i : Nat), .str ⟨#[c]⟩]), fun i _ => x.cps.size ≤ i⟩
theorem turn_enumS {P : Program} {w : World} {K : PySem.W.Frag} {elts : List Expr} {kk : Nat} {tpos : Pos} (x : Str) (t : Tok) (e it : Addr) :
    Turn P w K (.Tuple elts kk tpos) (Ites x) [e, it] e (fun i h => i ≤ x.cps.size ∧ (∃ old, IsEnum h e it ((i : Nat) : Int) old) ∧ h.IsStrIter it (strIterType x) x t i ∧ e ≠ it) where
  mem := by simp
  obj := fun i h st b hb => by
    obtain ⟨_, ⟨old, he⟩, ⟨o, ho, hc, hd⟩, _⟩ := st
    have e' : b = e ∨ b = it := by simpa using hb
    rcases e' with z | z
    · rw [z]
      exact ⟨_, he, fun v q => nomatch q⟩
    · rw [z]
      exact ⟨o, ho, fun v q => by rw [hd] at q; cases q⟩
  keep := fun i h h' st k => let ⟨hn, ⟨old, he⟩, ⟨o, ho, r⟩, hne⟩ := st; ⟨hn, ⟨old, k e (by simp) _ he⟩, ⟨o, k it (by simp) o ho, r⟩, hne⟩
  item := by
    intro X hP hw hK hc i pins s σ H E I hf st hg
    subst hP hw hK
    obtain ⟨_, ⟨old, he⟩, hit, hne⟩ := st
    have hel : e < s.heap.objs.size := Heap.lt_size he
    have hil : it < s.heap.objs.size := by obtain ⟨_, q, _⟩ := hit; exact Heap.lt_size q
    have Dr := Draws.text (prog := X.prog) (w := X.w) (A := X.A.in1) (show X.A.in1.handled = none from I.ok.hd hc) it x t
    refine wpAny_pyNext_enum_itemD Dr he hit hg hne (by simpa using hne) fun u h' tk hu ho hit' hT hsz hk => ?_
    obtain ⟨c, tc, hcx, rfl⟩ := hu
    refine ⟨_, rfl, wpAny_letOwnedTupleGo_enum (s := { s with heap := h', toks := tk + 1 }) ho fun h'' he' sb => ?_⟩
    have hT2 : h''.get? s.heap.objs.size = some { cls := .type "tuple", data := .seq #[.int i tk, .str ⟨#[c]⟩ tc] } := (sb.2 _ (Nat.ne_of_gt hel)).trans hT
    have new : ObjOk X.prog X.w (upd H s.heap.objs.size (.tup [.int (i : Nat), .str ⟨#[c]⟩])) h'' s.heap.objs.size (.tup [.int (i : Nat), .str ⟨#[c]⟩]) :=
      ⟨by show 2 ≤ sizeLine; decide, [.int i tk, .str ⟨#[c]⟩ tc], .cons ⟨_, rfl⟩ (.cons ⟨_, rfl⟩ .nil), ⟨_, hT2, rfl, _, rfl⟩⟩
    have I1 : Inv X pins σ (upd H s.heap.objs.size (.tup [.int (i : Nat), .str ⟨#[c]⟩])) { s with heap := h'', toks := tk + 1 } :=
      I.turnedNew (ch := [e, it]) (fun b ob hb q => (sb.2 b (fun z => hb (by simp [z]))).trans (hk b ob (fun z => hb (by simp [z])) (fun z => hb (by simp [z])) q)) hf (Nat.le_refl _) new
    obtain ⟨oi, ei, ri⟩ := hit'
    refine ⟨.ref s.heap.objs.size, _, I1, rfl, ⟨_, c, rfl, I.hok.fresh (Nat.le_refl _), hcx, rfl⟩, ⟨hg, ⟨.str ⟨#[c]⟩ tc, ?_⟩, ⟨oi, (sb.2 it (Ne.symm hne)).trans ei, ri⟩, hne⟩, fun b hb => ?_⟩
    · have e1 : ((i + 1 : Nat) : Int) = (i : Int) + 1 := by omega
      rw [e1]
      exact he'
    · have hb' : b < s.heap.objs.size := by
        have e' : b = e ∨ b = it := by simpa using hb
        rcases e' with z | z
        · rw [z]
          exact hel
        · rw [z]
          exact hil
      rw [upd_ne (Nat.ne_of_lt hb')]
      exact (hf b hb).1
  done := by
    intro X hP hw hK hc i pins s σ H E I hf st hg
    subst hP hw hK
    obtain ⟨hn, ⟨old, he⟩, hit, hne⟩ := st
    have hg : x.cps.size ≤ i := hg
    obtain rfl : i = x.cps.size := by omega
    obtain ⟨f0, f1, f2, f3, f4, f5⟩ := hf it (by simp)
    have Dr := Draws.text (prog := X.prog) (w := X.w) (A := X.A.in1) (show X.A.in1.handled = none from I.ok.hd hc) it x t
    exact wpAny_pyNext_enum_endD Dr he hit fun h' eb => ⟨rfl, I.turned (t' := s.toks) (fun b o hb q => eb b o hb q) f0 f1 f3 f4 f5⟩
  self := fun A i s Q E st h => let ⟨_, ⟨_, he⟩, _⟩ := st; wpAny_pyIter_enum he h
def iEnumS (ta : TA) : TI := fun σ H R => ta σ H fun vs H1 => ∃ x, vs = [.str x] ∧ R (Ites x) H1
theorem pi_enumS {X : Cx} {e : Expr} {ta : TA} {p pos tpos : Pos} {elts : List Expr} {kk : Nat} (hg : Gl X "enumerate") (hm : X.mg "enumerate" = none) (ha : PA X [e] ta) (hs : starEach [e] X.env = [(false, eval e X.env)] := by rfl) :
    PI X (.Tuple elts kk tpos) (.Call (.Name "enumerate" p) [e] [] pos) (iEnumS ta) := by
  refine ⟨fun pns s τ G R I h => ?_⟩
  refine Call_ (ld_blt I hg hm boot_enumerate (PyProof.Rows.callWith_type1 (thn (ha.run pos pns s τ G _ I h) fun us s1 ⟨vs, H1, I1, r1, q1⟩ => ?_) hs rfl))
  obtain ⟨x, ex, q⟩ := q1
  subst ex
  cases r1 with
  | cons r rr =>
    cases rr
    obtain ⟨t, rfl⟩ := r
    refine call_enumerate_str fun h' he hit hsz hk => wpAny_pyIter_enum he ?_
    have I2 : Inv X pns τ H1 { s1 with heap := h' } := I1.kept (t' := s1.toks) hk
    refine ⟨s1.heap.objs.size + 1, [s1.heap.objs.size + 1, s1.heap.objs.size], _, _, H1, rfl, I2, turn_enumS x t (s1.heap.objs.size + 1) s1.heap.objs.size, ⟨Nat.zero_le _, ⟨.none, he⟩, hit, Nat.succ_ne_self _⟩, fun b hb => ?_, q⟩
    have e' : b = s1.heap.objs.size + 1 ∨ b = s1.heap.objs.size := by simpa using hb
    have hle : s1.heap.objs.size ≤ b := by
      rcases e' with z | z
      · rw [z]
        exact Nat.le_add_right _ _
      · rw [z]
        exact Nat.le_refl _
    exact I1.fpOk hle (I1.hok.fresh hle)
/-- for i, c in enumerate(text) -/
theorem for_enumS {x : Str} {g : TG} {tb : TS} {D : Ends} {σ : L2.St} {H : Hp} (Pv : Nat → L2.St → Hp → Prop) (h0 : Pv 0 σ H)
    (hs : ∀ i c σ H T, x.cps[i]? = some c → Pv i σ H → H T = none → g (.ref T) σ (upd H T (.tup [.int (i : Nat), .str ⟨#[c]⟩])) fun σ2 H2 => tb { D with nx := Pv (i + 1), ct := Pv (i + 1), bk := D.nx } σ2 H2)
    (hd : ∀ σ H, Pv x.cps.size σ H → D.nx σ H) :
    ∃ W : Nat → Nat → L2.St → Hp → Prop, (∃ m, W 0 m σ H) ∧ ∀ i m σ H, W i m σ H →
      ((Ites x).stop i H ∧ D.nx σ H) ∨ ((Ites x).go i H ∧ ∃ N : L2.St → Hp → Prop, (∀ σ' H', N σ' H' → ∃ m', m' < m ∧ W (i + 1) m' σ' H') ∧ ∀ v H', (Ites x).yld i H v H' → g v σ H' fun σ2 H2 => tb { D with nx := N, ct := N, bk := D.nx } σ2 H2) := by
  refine ⟨fun i m σ H => m = x.cps.size - i ∧ i ≤ x.cps.size ∧ Pv i σ H, ⟨x.cps.size, by simp, Nat.zero_le _, h0⟩, ?_⟩
  rintro i m σ H ⟨rfl, hi, p⟩
  by_cases hlt : i < x.cps.size
  · refine .inr ⟨hlt, Pv (i + 1), fun σ' H' p' => ⟨x.cps.size - (i + 1), by omega, rfl, hlt, p'⟩, fun v H' y => ?_⟩
    obtain ⟨T, c, rfl, nT, hc, rfl⟩ := y
    exact hs i c σ H T hc p nT
  · have e : i = x.cps.size := by omega
    subst e
    exact .inl ⟨Nat.le_refl _, hd σ H p⟩
/-- for c in text -/
theorem for_str {x : Str} {g : TG} {tb : TS} {D : Ends} {σ : L2.St} {H : Hp} (Pv : Nat → L2.St → Hp → Prop) (h0 : Pv 0 σ H)
    (hs : ∀ i c σ H, x.cps[i]? = some c → Pv i σ H → g (.str ⟨#[c]⟩) σ H fun σ2 H2 => tb { D with nx := Pv (i + 1), ct := Pv (i + 1), bk := D.nx } σ2 H2)
    (hd : ∀ σ H, Pv x.cps.size σ H → D.nx σ H) :
    ∃ W : Nat → Nat → L2.St → Hp → Prop, (∃ m, W 0 m σ H) ∧ ∀ i m σ H, W i m σ H →
      ((Its x).stop i H ∧ D.nx σ H) ∨ ((Its x).go i H ∧ ∃ N : L2.St → Hp → Prop, (∀ σ' H', N σ' H' → ∃ m', m' < m ∧ W (i + 1) m' σ' H') ∧ ∀ v H', (Its x).yld i H v H' → g v σ H' fun σ2 H2 => tb { D with nx := N, ct := N, bk := D.nx } σ2 H2) := by
  refine ⟨fun i m σ H => m = x.cps.size - i ∧ i ≤ x.cps.size ∧ Pv i σ H, ⟨x.cps.size, by simp, Nat.zero_le _, h0⟩, ?_⟩
  rintro i m σ H ⟨rfl, hi, p⟩
  by_cases hlt : i < x.cps.size
  · refine .inr ⟨hlt, Pv (i + 1), fun σ' H' p' => ⟨x.cps.size - (i + 1), by omega, rfl, hlt, p'⟩, fun v H' y => ?_⟩
    obtain ⟨rfl, c, hc, rfl⟩ := y
    exact hs i c σ _ hc p
  · have e : i = x.cps.size := by omega
    subst e
    exact .inl ⟨Nat.le_refl _, hd σ H p⟩
end Pw

set_option Elab.async false
set_option linter.all false
set_option maxRecDepth 100000
namespace Pw
open PySem PySem.Builtin PySem.Builtin.Str PySem.StrLaws TL

/-! ### signs -/
def bad (c : Nat) : Bool := c != 48 && c != 49
/-- the first stranger's place -/
def strange (l : List Nat) : Option Nat := l.findIdx? bad
/-- a text of 0s and 1s alone -/
def Pure (l : List Nat) : Prop := ∀ c ∈ l, c = 48 ∨ c = 49
theorem pure_of {l : List Nat} (h : strange l = none) : Pure l := fun c hc => by
  have := List.findIdx?_eq_none_iff.mp h c hc
  simp [bad] at this
  by_cases e : c = 48
  · exact .inl e
  · exact .inr (this e)
theorem strange_none {l : List Nat} (h : Pure l) : strange l = none := by
  refine List.findIdx?_eq_none_iff.mpr fun c hc => ?_
  rcases h c hc with e | e <;> simp [bad, e]
theorem strange_take {l : List Nat} {i c : Nat} (h : l[i]? = some c) (hp : Pure (l.take i)) : bad c = true → strange l = some i := fun hb => by
  obtain ⟨hi, e⟩ := List.getElem?_eq_some_iff.mp h
  refine List.findIdx?_eq_some_iff_getElem.mpr ⟨hi, by rw [e]; exact hb, fun j hj => ?_⟩
  have hm : l[j] ∈ l.take i := List.mem_take_iff_getElem.mpr ⟨j, by omega, rfl⟩
  rcases hp _ hm with q | q <;> simp [bad, q]
theorem pure_more {l : List Nat} {i c : Nat} (h : l[i]? = some c) (hp : Pure (l.take i)) (hb : bad c = false) : Pure (l.take (i + 1)) := fun d hd => by
  rw [List.take_add_one, h] at hd
  rcases List.mem_append.mp hd with q | q
  · exact hp d q
  · obtain rfl : d = c := by simpa using q
    simp [bad] at hb
    by_cases e : d = 48
    · exact .inl e
    · exact .inr (hb e)
theorem strange_lt {l : List Nat} {i : Nat} (h : strange l = some i) : i < l.length := (List.findIdx?_eq_some_iff_getElem.mp h).1

/-! ### count of one sign -/
theorem at_sign {x y : Str} {s : Nat} (hy : tl y = [s]) (i : Nat) : At x y x.length i ↔ (tl x)[i]? = some s := by
  rw [at_iff (by rw [hy]; simp), hy]
  show ((List.drop i (tl x)).take 1 == [s]) = true ↔ _
  rw [beq_iff_eq]
  constructor
  · intro h
    have : ((tl x).drop i)[0]? = some s := by
      have e := congrArg (·[0]?) h
      simpa [List.getElem?_take] using e
    simpa using this
  · intro h
    obtain ⟨hi, e⟩ := List.getElem?_eq_some_iff.mp h
    rw [List.drop_eq_getElem_cons hi, e]
    rfl
theorem count_none {s : Nat} {l : List Nat} (h : ∀ i : Nat, l[i]? ≠ some s) : l.count s = 0 := by
  refine List.count_eq_zero.mpr fun hm => ?_
  obtain ⟨i, hi, e⟩ := List.mem_iff_getElem.mp hm
  exact h i (by rw [List.getElem?_eq_getElem hi, e])
theorem chain_count {x y : Str} {s : Nat} (hy : tl y = [s]) : ∀ (cuts : List Nat) (a f : Nat), ChainG x y x.length a cuts f → (∀ k, f ≤ k → ¬ At x y x.length k) → cuts.length = ((tl x).drop a).count s
  | [], a, f, h, hn => by
    have e : f = a := h
    subst e
    rw [count_none]
    · rfl
    · intro i hi
      rw [List.getElem?_drop] at hi
      exact hn (f + i) (by omega) ((at_sign hy _).mpr hi)
  | c :: r, a, f, h, hn => by
    obtain ⟨h1, h2, h3, h4⟩ := h
    have hl : y.length = 1 := by rw [len_tl, hy]; rfl
    rw [hl] at h4
    have ih := chain_count hy r (c + 1) f h4 hn
    have hc := (at_sign hy c).mp h2
    obtain ⟨hi, e⟩ := List.getElem?_eq_some_iff.mp hc
    have hsplit : (tl x).drop a = ((tl x).drop a).take (c - a) ++ (tl x).drop c := by
      have q := (List.take_append_drop (c - a) ((tl x).drop a)).symm
      rw [List.drop_drop] at q
      rw [show a + (c - a) = c by omega] at q
      exact q
    rw [hsplit, List.count_append, List.drop_eq_getElem_cons hi, e, List.count_cons_self, ← ih, count_none]
    · rw [List.length_cons, Nat.zero_add]
    · intro i hi2
      by_cases hlt : i < c - a
      · rw [List.getElem?_take_of_lt hlt, List.getElem?_drop] at hi2
        exact h3 (a + i) (by omega) (by omega) ((at_sign hy _).mpr hi2)
      · rw [List.getElem?_eq_none (by rw [List.length_take]; omega)] at hi2
        cases hi2
theorem count_sign {x y : Str} {s : Nat} (hy : tl y = [s]) : Txt.count x y = ((tl x).count s : Nat) := by
  have h1 : 1 ≤ y.length := by rw [len_tl, hy]; exact Nat.le_refl _
  obtain ⟨f, g, hn⟩ := occ_tight x y h1
  have := chain_count hy _ 0 f g hn
  rw [List.drop_zero] at this
  unfold Txt.count
  rw [this]
theorem count_pure : ∀ {l : List Nat}, Pure l → l.count 48 + l.count 49 = l.length
  | [], _ => rfl
  | c :: r, h => by
    have ih := count_pure (l := r) fun d hd => h d (List.mem_cons_of_mem _ hd)
    rcases h c List.mem_cons_self with e | e <;> subst e <;> simp [List.count_cons] <;> omega

/-! ### runs of 0s -/
def runL : Nat → List Nat → List Nat
  | k, [] => [k]
  | k, c :: r => if c = 49 then k :: runL 0 r else runL (k + 1) r
theorem spl_len : ∀ (l acc : List Nat), (spl [49] 0 acc l).map List.length = runL acc.length l
  | [], acc => by rw [spl_nil]; rfl
  | c :: r, acc => by
    by_cases h : c = 49
    · subst h
      rw [spl_hit (by show ((49 :: r).take 1 == [49]) = true; rfl), List.map_cons, show ([49] : List Nat).length - 1 = 0 from rfl, spl_len r []]
      show _ = if 49 = 49 then _ else _
      rw [if_pos rfl]
      rfl
    · have hm : pre [49] (c :: r) = false := pre_of_head [] r h
      rw [spl_miss hm, spl_len r (acc ++ [c])]
      show _ = if c = 49 then _ else _
      rw [if_neg h, List.length_append]
      rfl
theorem runL_ne (l : List Nat) : ∀ k, runL k l ≠ [] := by
  induction l with
  | nil => intro k; simp [runL]
  | cons c r ih =>
    intro k
    unfold runL
    split
    · simp
    · exact ih _
theorem runL_len (l : List Nat) : ∀ k, (runL k l).length ≤ l.length + 1 := by
  induction l with
  | nil => intro k; simp [runL]
  | cons c r ih =>
    intro k
    unfold runL
    split
    · rw [List.length_cons, List.length_cons]
      have := ih 0
      omega
    · have := ih (k + 1)
      rw [List.length_cons]
      omega
theorem runL_le (l : List Nat) : ∀ (k n : Nat), n ∈ runL k l → n ≤ k + l.length := by
  induction l with
  | nil =>
    intro k n h
    have : n = k := by simpa [runL] using h
    rw [this]
    exact Nat.le_add_right _ _
  | cons c r ih =>
    intro k n h
    unfold runL at h
    split at h
    · rcases List.mem_cons.mp h with z | z
      · rw [z]
        exact Nat.le_add_right _ _
      · have := ih 0 n z
        rw [List.length_cons]
        omega
    · have := ih (k + 1) n h
      rw [List.length_cons]
      omega
/-- the lengths of split's parts -/
theorem split_len {x y : Str} (hy : tl y = [49]) : (Txt.split x y).map (fun z => z.length) = runL 0 (tl x) := by
  have hk : ¬ Builtin.Str.strKind x < Builtin.Str.strKind y := kind_ok (by
    have e : y.cps = #[49] := Array.toList_inj.mp hy
    rw [e]
    simp)
  have h := split_spl x y (by rw [hy]; simp) hk
  have h2 := congrArg (List.map List.length) h
  rw [hy, spl_len] at h2
  have h3 : List.map List.length (List.map tl (Txt.split x y)) = runL 0 (tl x) := h2
  rw [← h3, List.map_map]
  refine List.map_congr_left fun z _ => ?_
  exact len_tl z
/-- the law's gaps: i the place, the last 1's place -/
def gapL : Nat → Option Nat → List Nat → List Int
  | _, _, [] => []
  | i, last, c :: r => if c = 49 then (match last with | some j => [(i : Int) - j - 1] | none => []) ++ gapL (i + 1) (some i) r else gapL (i + 1) last r
theorem gap_some : ∀ (l : List Nat) (i j k : Nat), i = j + 1 + k → gapL i (some j) l = (runL k l).dropLast.map (fun (n : Nat) => (n : Int))
  | [], i, j, k, h => rfl
  | c :: r, i, j, k, h => by
    unfold gapL runL
    by_cases e : c = 49
    · rw [if_pos e, if_pos e, gap_some r (i + 1) i 0 (by omega), List.dropLast_cons_of_ne_nil (runL_ne _ _), List.map_cons]
      show [(i : Int) - j - 1] ++ _ = _
      rw [show (i : Int) - j - 1 = (k : Int) by omega]
      rfl
    · rw [if_neg e, if_neg e]
      exact gap_some r (i + 1) j (k + 1) (by omega)
theorem gap_none : ∀ (l : List Nat) (i k : Nat), gapL i none l = ((runL k l).drop 1).dropLast.map (fun (n : Nat) => (n : Int))
  | [], i, k => rfl
  | c :: r, i, k => by
    unfold gapL runL
    by_cases e : c = 49
    · rw [if_pos e, if_pos e, gap_some r (i + 1) i 0 (by omega)]
      rfl
    · rw [if_neg e, if_neg e]
      exact gap_none r (i + 1) (k + 1)
/-- the law's idle: (most, here) led along -/
def idleL : Int → Int → List Nat → Int
  | m, _, [] => m
  | m, h, c :: r => idleL (max m (if c = 48 then h + 1 else 0)) (if c = 48 then h + 1 else 0) r
/-- the greatest of a list of at least one -/
def IsMax (m : Int) (l : List Int) : Prop := m ∈ l ∧ ∀ x ∈ l, x ≤ m
theorem IsMax.eq {m n : Int} {l : List Int} (a : IsMax m l) (b : IsMax n l) : m = n := Int.le_antisymm (b.2 _ a.1) (a.2 _ b.1)
theorem idle_max : ∀ (l : List Nat), Pure l → ∀ (k : Nat) (m : Int), (k : Int) ≤ m → ∃ t, IsMax t ((runL k l).map (fun (n : Nat) => (n : Int))) ∧ idleL m k l = max m t
  | [], _, k, m, h => ⟨k, ⟨by simp [runL], by simp [runL]⟩, by simp [idleL]; omega⟩
  | c :: r, hp, k, m, h => by
    have hr : Pure r := fun d hd => hp d (List.mem_cons_of_mem _ hd)
    unfold idleL runL
    rcases hp c List.mem_cons_self with e | e
    · rw [if_pos e, if_neg (by omega)]
      obtain ⟨t, ht, q⟩ := idle_max r hr (k + 1) (max m ((k : Int) + 1)) (by push_cast; omega)
      have hk : (k : Int) + 1 ≤ t := by
        obtain ⟨x, hx⟩ : ∃ x, x ∈ runL (k + 1) r ∧ k + 1 ≤ x := by
          have gen : ∀ (l : List Nat) (k : Nat), ∃ x, x ∈ runL k l ∧ k ≤ x := by
            intro l
            induction l with
            | nil => intro k; exact ⟨k, by simp [runL], Nat.le_refl _⟩
            | cons c r ih =>
              intro k
              unfold runL
              split
              · exact ⟨k, by simp, Nat.le_refl _⟩
              · obtain ⟨x, h1, h2⟩ := ih (k + 1)
                exact ⟨x, h1, by omega⟩
          exact gen r (k + 1)
        have := ht.2 (x : Int) (List.mem_map.mpr ⟨x, hx.1, rfl⟩)
        omega
      refine ⟨t, ht, ?_⟩
      have q' : idleL (max m ((k : Int) + 1)) ((k : Int) + 1) r = max (max m ((k : Int) + 1)) t := by
        have := q
        push_cast at this
        exact this
      rw [q']
      omega
    · rw [if_pos e, if_neg (by omega)]
      obtain ⟨t, ht, q⟩ := idle_max r hr 0 (max m 0) (by omega)
      refine ⟨max (k : Int) t, ⟨?_, fun x hx => ?_⟩, ?_⟩
      · rw [List.map_cons]
        by_cases hkt : (k : Int) ≤ t
        · rw [Int.max_eq_right hkt]
          exact List.mem_cons_of_mem _ ht.1
        · rw [Int.max_eq_left (by omega)]
          exact List.mem_cons_self
      · rw [List.map_cons] at hx
        rcases List.mem_cons.mp hx with z | z
        · omega
        · have := ht.2 x z
          omega
      · have q' : idleL (max m 0) 0 r = max (max m 0) t := by
          have := q
          push_cast at this
          exact this
        rw [q']
        omega
theorem idle_is {l : List Nat} (hp : Pure l) {t : Int} (ht : IsMax t ((runL 0 l).map (fun (n : Nat) => (n : Int)))) : idleL 0 0 l = t := by
  obtain ⟨u, hu, q⟩ := idle_max l hp 0 0 (Int.le_refl _)
  have e := hu.eq ht
  subst e
  have h0 : 0 ≤ u := by
    obtain ⟨n, _, e⟩ := List.mem_map.mp hu.1
    omega
  have q' : idleL 0 0 l = max 0 u := q
  rw [q']
  omega

/-! ### sums along a row -/
/-- the sums ahead of each place and at the end, from h on -/
def sumL : Int → List Nat → List Int
  | h, [] => [h]
  | h, c :: r => h :: sumL (if c = 49 then h + 1 else h - 1) r
def step (h : Int) (c : Nat) : Int := if c = 49 then h + 1 else h - 1
def endS (l : List Nat) : Int := l.foldl step 0
/-- the highest, the lowest of them, led along -/
def hiS (l : List Nat) : Int × Int × Int := l.foldl (fun st c => let h := step st.1 c; (h, (if h > st.2.1 then h else st.2.1), (if h < st.2.2 then h else st.2.2))) (0, 0, 0)
theorem hiS_snoc (l : List Nat) (c : Nat) : hiS (l ++ [c]) = (step (hiS l).1 c, (if step (hiS l).1 c > (hiS l).2.1 then step (hiS l).1 c else (hiS l).2.1), (if step (hiS l).1 c < (hiS l).2.2 then step (hiS l).1 c else (hiS l).2.2)) := by
  unfold hiS
  rw [List.foldl_append]
  rfl
theorem take_snoc {l : List Nat} {i c : Nat} (h : l[i]? = some c) : l.take (i + 1) = l.take i ++ [c] := by
  rw [List.take_add_one, h]
  rfl
/-- all sums of the beginnings -/
def sums (l : List Nat) : List Int := (List.range (l.length + 1)).map fun i => (hiS (l.take i)).1
theorem sums_len (l : List Nat) : (sums l).length = l.length + 1 := by simp [sums]
theorem hiS_top (l : List Nat) : IsMax (hiS l).2.1 (sums l) ∧ ((hiS l).2.2 ∈ sums l ∧ ∀ x ∈ sums l, (hiS l).2.2 ≤ x) := by
  have gen : ∀ n, n ≤ l.length → IsMax (hiS (l.take n)).2.1 ((List.range (n + 1)).map fun i => (hiS (l.take i)).1) ∧
      ((hiS (l.take n)).2.2 ∈ ((List.range (n + 1)).map fun i => (hiS (l.take i)).1) ∧ ∀ x ∈ ((List.range (n + 1)).map fun i => (hiS (l.take i)).1), (hiS (l.take n)).2.2 ≤ x) := by
    intro n
    induction n with
    | zero =>
      intro _
      simp [IsMax, hiS]
    | succ n ih =>
      intro hn
      obtain ⟨⟨a1, a2⟩, b1, b2⟩ := ih (by omega)
      have hg : l[n]? = some l[n] := List.getElem?_eq_getElem (by omega)
      have e : (List.range (n + 1 + 1)).map (fun i => (hiS (l.take i)).1) = ((List.range (n + 1)).map fun i => (hiS (l.take i)).1) ++ [(hiS (l.take (n + 1))).1] := by
        rw [List.range_succ, List.map_append]
        rfl
      have e2 := hiS_snoc (l.take n) l[n]
      rw [← take_snoc hg] at e2
      have f1 : (hiS (l.take (n + 1))).1 = step (hiS (l.take n)).1 l[n] := by rw [e2]
      have f2 : (hiS (l.take (n + 1))).2.1 = if step (hiS (l.take n)).1 l[n] > (hiS (l.take n)).2.1 then step (hiS (l.take n)).1 l[n] else (hiS (l.take n)).2.1 := by rw [e2]
      have f3 : (hiS (l.take (n + 1))).2.2 = if step (hiS (l.take n)).1 l[n] < (hiS (l.take n)).2.2 then step (hiS (l.take n)).1 l[n] else (hiS (l.take n)).2.2 := by rw [e2]
      rw [e, f2, f3]
      have f1' := f1
      generalize hh : step (hiS (l.take n)).1 l[n] = h at *
      rw [f1']
      refine ⟨⟨?_, fun x hx => ?_⟩, ?_, fun x hx => ?_⟩
      · split
        · exact List.mem_append_right _ (by simp)
        · exact List.mem_append_left _ a1
      · rcases List.mem_append.mp hx with z | z
        · have := a2 x z
          split <;> omega
        · obtain rfl : x = h := by simpa using z
          split <;> omega
      · split
        · exact List.mem_append_right _ (by simp)
        · exact List.mem_append_left _ b1
      · rcases List.mem_append.mp hx with z | z
        · have := b2 x z
          split <;> omega
        · obtain rfl : x = h := by simpa using z
          split <;> omega
  have := gen l.length (Nat.le_refl _)
  rw [List.take_length] at this
  exact this
/-- what is at least as far as all two sums are apart, and is so far itself, is the swing -/
theorem swing_is {l : List Nat} {m : Int} (h1 : ∀ a ∈ sums l, ∀ b ∈ sums l, b - a ≤ m) (h2 : ∃ a ∈ sums l, ∃ b ∈ sums l, m = b - a ∨ m = a - b) : m = (hiS l).2.1 - (hiS l).2.2 := by
  obtain ⟨⟨a1, a2⟩, b1, b2⟩ := hiS_top l
  have g1 := h1 _ b1 _ a1
  obtain ⟨a, ha, b, hb, e⟩ := h2
  have c1 := a2 a ha
  have c2 := a2 b hb
  have c3 := b2 a ha
  have c4 := b2 b hb
  rcases e with e | e <;> omega
end Pw

set_option Elab.async false
set_option linter.all false
set_option maxRecDepth 100000
set_option maxHeartbeats 4000000
namespace Pw
open PySem PySem.Spec PyProof.Rows
/-- how many unlike texts -/
def dist : List Str → Nat
  | [] => 0
  | x :: r => if r.any (· == x) = true then dist r else dist r + 1
def cntD (l : List Str) : Nat := dist l.reverse
theorem cntD_snoc (l : List Str) (x : Str) : cntD (l ++ [x]) = if l.any (· == x) = true then cntD l else cntD l + 1 := by
  unfold cntD
  rw [List.reverse_append]
  show (if l.reverse.any (· == x) = true then dist l.reverse else dist l.reverse + 1) = _
  rw [List.any_reverse]
theorem dist_cons (x : Str) (r : List Str) : dist (x :: r) = if r.any (· == x) = true then dist r else dist r + 1 := rfl
theorem dist_le : ∀ l : List Str, dist l ≤ l.length
  | [] => Nat.le_refl _
  | x :: r => by
    have := dist_le r
    unfold dist
    split
    · rw [List.length_cons]
      omega
    · rw [List.length_cons]
      omega
theorem cntD_le (l : List Str) : cntD l ≤ l.length := by
  unfold cntD
  have := dist_le l.reverse
  rw [List.length_reverse] at this
  exact this
theorem any_mem {l : List Str} {x : Str} : l.any (· == x) = true ↔ x ∈ l := by
  rw [List.any_eq_true]
  constructor
  · rintro ⟨y, h1, h2⟩
    rw [← beq_iff_eq.mp h2]
    exact h1
  · intro h
    exact ⟨x, h, beq_self_eq_true x⟩
theorem dist_nodup : ∀ l : List Str, dist l = l.length ↔ l.Nodup
  | [] => by simp [dist]
  | x :: r => by
    have ih := dist_nodup r
    have hle := dist_le r
    rw [List.nodup_cons, ← ih, List.length_cons, dist_cons]
    by_cases h : r.any (· == x) = true
    · rw [if_pos h]
      constructor
      · intro e
        omega
      · rintro ⟨h1, _⟩
        exact absurd (any_mem.mp h) h1
    · rw [if_neg h]
      constructor
      · intro e
        exact ⟨fun z => h (any_mem.mpr z), by omega⟩
      · rintro ⟨_, h2⟩
        omega
theorem cntD_nodup (l : List Str) : cntD l = l.length ↔ l.Nodup := by
  unfold cntD
  have := dist_nodup l.reverse
  rw [List.length_reverse] at this
  rw [this]
  unfold List.Nodup
  rw [List.pairwise_reverse]
  exact ⟨fun h => h.imp fun z => Ne.symm z, fun h => h.imp fun z => Ne.symm z⟩
section
variable {prog : Program} {w : World} {A : Around} {R : Result → Shared → Prop} {I : Addr} {fp wr : List Addr} {G : Array GenState → Array GenState → Prop} {n : Nat} {P : Nat → Value → Prop} {St : Nat → Shared → Prop}
theorem fill_loop (W : WalksS prog w A.in1 I fp wr G n P St) (S : Addr) (hSf : S ∉ fp) (xs : List Str) (hsz : xs.length = n) (hn : n ≤ 60) (hval : ∀ i v, P i v → ∃ t, v = .str (xs.getD i Str.empty) t) :
    ∀ (k i : Nat) (s : Shared), n - i = k → i ≤ n → St i s → s.heap.SetOf (PySem.strKind prog w) S (fun y => (xs.take i).any (· == y)) (cntD (xs.take i)) →
      (∀ s', Moved (S :: wr) G s s' → s'.heap.SetOf (PySem.strKind prog w) S (fun y => (xs.take n).any (· == y)) (cntD (xs.take n)) → R (.ok (.ret .none)) s') →
      codeAny (model prog w) A (.builtin "set.update.loop" ⟨[.ref S, .ref I], []⟩) R s := by
  have nSw : S ∉ wr := fun h => hSf (W.sub _ h)
  have inW : ∀ b ∈ wr, b ∈ S :: wr := fun b hb => List.mem_cons_of_mem _ hb
  intro k
  induction k with
  | zero =>
    intro i s hk hi hst hS hR
    obtain rfl : i = n := by omega
    refine codeAny_builtin PyProof.Rows.F.entry_set_update_loop ?_
    rw [Around.under_plainId PyProof.Rows.F.plain_set_update_loop _]
    show wpAny _ A.in1 (pyNext (.ref I) >>= _) _ _ s
    refine wpAny_bind (W.done s _ _ hst fun s' hm => ?_)
    show wpAny _ A.in1 (ret Value.none) _ _ s'
    exact wpAny_pure (hR s' (hm.mono inW) (let ⟨o, es, ep, t, ho, rest⟩ := hS; ⟨o, es, ep, t, hm.heap S _ nSw ho, rest⟩))
  | succ k ih =>
    intro i s hk hi hst hS hR
    have hlt : i < n := by omega
    have hix : i < xs.length := by omega
    refine codeAny_builtin PyProof.Rows.F.entry_set_update_loop ?_
    rw [Around.under_plainId PyProof.Rows.F.plain_set_update_loop _]
    show wpAny _ A.in1 (pyNext (.ref I) >>= _) _ _ s
    refine wpAny_bind (W.item i s _ _ hlt hst fun v s' hP hst' hm => ?_)
    obtain ⟨t, rfl⟩ := hval i v hP
    have eget : xs.getD i Str.empty = xs[i] := by simp [List.getD, hix]
    rw [eget]
    have hS' : s'.heap.SetOf (PySem.strKind prog w) S (fun y => (xs.take i).any (· == y)) (cntD (xs.take i)) := let ⟨o, es, ep, tb, ho, rest⟩ := hS; ⟨o, es, ep, tb, hm.heap S _ nSw ho, rest⟩
    have hroom : cntD (xs.take i) + 1 < scanBound := by
      have := cntD_le (xs.take i)
      rw [List.length_take] at this
      unfold scanBound
      omega
    show wpAny _ A.in1 (holding [Value.str xs[i] t] (setAdd S (.str xs[i] t)) >>= _) _ _ s'
    refine wpAny_bind (wpAny_holding ?_)
    unfold setAdd
    refine wpAny_holding ?_
    refine wpAny_bind ((PySem.strKind prog w).pyHash (k := xs[i]) (strKind_is _ _ _ _) ?_)
    refine wpAny_setAddHashed_of (knd := PySem.strKind prog w) (s := { s' with toks := s'.toks + 1 }) (strKind_is _ _ _ _) rfl hS' hroom fun h' hsb hS2 => ?_
    have etake : xs.take (i + 1) = xs.take i ++ [xs[i]] := by
      rw [List.take_add_one, List.getElem?_eq_getElem hix]
      rfl
    have hSi : h'.SetOf (PySem.strKind prog w) S (fun y => (xs.take (i + 1)).any (· == y)) (cntD (xs.take (i + 1))) := by
      refine SetOf_congr hS2 (fun y => ?_) ?_
      · rw [etake, List.any_append]
        congr 1
        by_cases e : y = xs[i]
        · subst e
          simp
        · have hb : (xs[i] == y) = false := by simpa [beq_iff_eq] using (fun z : xs[i] = y => e z.symm)
          simp [hb, e]
      · rw [etake, cntD_snoc]
    refine wpAny_pure ⟨plainId_quiet PyProof.Rows.F.plain_set_update_loop _, ih (i + 1) _ (by omega) hlt (W.frame _ s' _ _ hst' (Nat.le_succ _) fun b hb o e => ?_) hSi fun s'' hm'' hS'' => ?_⟩
    · rw [hsb.2 b (fun z : b = S => hSf (by rw [← z]; exact hb))]
      exact e
    · refine hR s'' (Moved.trans W.gtrans ((hm.mono inW).then_heap (Nat.le_succ _) fun b o hb e => ?_) hm'') hS''
      rw [hsb.2 b (fun z : b = S => hb (by rw [z]; exact List.mem_cons_self))]
      exact e
end
/-- the object of an empty set -/
abbrev set0 (led : Bool) : Obj := { cls := .type "set", dict := none, data := .set #[] 0 (.fresh 0 0 led) }
section
variable {prog : Program} {w : World} {A : Around} {E : Value → Shared → Prop} {s : Shared}
/-- set(x), once its __init__ is walked -/
theorem set_by {x : Addr} {xs : List Str} {n : Nat} {Q : Value → Shared → Prop}
    (hinit : ∀ (led : Bool) (R : Fin → Shared → Prop) (E' : Value → Shared → Prop), (∀ (h' : Heap) (tk : Nat), h'.SetOf (PySem.strKind prog w) s.heap.objs.size (fun y => (xs.take n).any (· == y)) (cntD (xs.take n)) → (∀ b o, b < s.heap.objs.size → s.heap.get? b = some o → h'.get? b = some o) → R (.done (.ret .none)) { s with heap := h', toks := tk }) →
      wpAny (model prog w) A.in1.in1 (Builtin.«set.__init__» ⟨[.ref s.heap.objs.size, .ref x], []⟩) R E' { s with heap := s.heap.push (set0 led) })
    (h : ∀ (h' : Heap) (tk : Nat), h'.SetOf (PySem.strKind prog w) s.heap.objs.size (fun y => (xs.take n).any (· == y)) (cntD (xs.take n)) → (∀ b o, b < s.heap.objs.size → s.heap.get? b = some o → h'.get? b = some o) → Q (.ref s.heap.objs.size) { s with heap := h', toks := tk }) :
    wpAny (model prog w) A (call (.type "set") [.ref x]) Q E s := by
  obtain ⟨c, tl, hmro⟩ := PySem.F.called_set.mro
  have hmade := PySem.F.called_set.made
  have hsub := PySem.F.called_set.sub
  refine wpAny_call (codeAny_of_tree ?_)
  show wpAny _ _ (callAny (.type "set") _) _ _ _
  refine wpAny_pure ⟨Code.quiet_builtin _ (by decide +kernel), codeAny_builtin PySem.F.entry_type_call ?_⟩
  rw [Around.under_plain (weight_type_call_type "set" [.ref x] []) rfl]
  have h1 := PySem.F.called_set.notType
  have h2 := PySem.F.called_set.canCreate
  have hct := PySem.F.typeCall_set_1 (.ref x)
  repeat (any_goals (first | assumption | wp_step))
  refine codeAny_mono (code_set_new_1 (.ref x) (E := E) (Q₁ := fun obj s₁ => ∃ led : Bool, obj = .ref s.heap.objs.size ∧ s₁ = { s with heap := s.heap.push (set0 led) }) fun led => ⟨led, rfl, rfl⟩) fun r s₁ hr => ?_
  cases r with
  | error e => exact hr
  | ok fl =>
    cases fl with
    | ret obj =>
      obtain ⟨led, rfl, rfl⟩ := hr
      have hS : (s.heap.push (set0 led)).get? s.heap.objs.size = some (set0 led) := Heap.get?_push_size _ rfl
      have hT : Shared.TypeIs { s with heap := s.heap.push (set0 led) } (.ref s.heap.objs.size) "set" := ⟨_, hS, rfl⟩
      have hli := PySem.F.called_set.init.lookup
      have hbi := PySem.F.called_set.init.bind (.ref s.heap.objs.size)
      repeat (any_goals (first | assumption | wp_step))
      refine codeAny_mono (codeAny_call_builtin (R := wants (fun r s₂ => r = .none ∧ ∃ h' tk, s₂ = { s with heap := h', toks := tk } ∧ h'.SetOf (PySem.strKind prog w) s.heap.objs.size (fun y => (xs.take n).any (· == y)) (cntD (xs.take n)) ∧
          (∀ b o, b < s.heap.objs.size → s.heap.get? b = some o → h'.get? b = some o)) E) PySem.F.called_set.init.plain PySem.F.entry_set_init (check_set_init_1 hT ?_)) fun r₂ s₂ hr₂ => ?_
      · exact hinit led _ _ fun h' tk a b => ⟨rfl, h', tk, rfl, a, b⟩
      · cases r₂ with
        | error e => exact hr₂
        | ok fl₂ =>
          cases fl₂ with
          | ret r =>
            obtain ⟨rfl, h', tk, rfl, hS', hk'⟩ := hr₂
            repeat (any_goals (first | assumption | wp_step))
            exact h _ _ hS' hk'
          | _ => exact hr₂.elim
    | _ => exact hr.elim
theorem set_list {x : Addr} {items : Array Value} {xs : List Str} {Q : Value → Shared → Prop} (hh : A.handled = none) (hl : s.heap.IsList x items) (hi : PyProof.Rows.StrsAre items.toList xs) (hn : xs.length ≤ 60)
    (h : ∀ (h' : Heap) (tk : Nat), h'.SetOf (PySem.strKind prog w) s.heap.objs.size (fun y => (xs.take items.size).any (· == y)) (cntD (xs.take items.size)) → (∀ b o, b < s.heap.objs.size → s.heap.get? b = some o → h'.get? b = some o) → Q (.ref s.heap.objs.size) { s with heap := h', toks := tk }) :
    wpAny (model prog w) A (call (.type "set") [.ref x]) Q E s := by
  refine set_by (n := items.size) (fun led R E' hR => ?_) h
  obtain ⟨⟨ocls, odict, odata, oslots⟩, hol, hcl, nl, hdl⟩ := hl
  simp only at hcl hdl
  subst hcl
  subst hdl
  have hS : (s.heap.push (set0 led)).get? s.heap.objs.size = some (set0 led) := Heap.get?_push_size _ rfl
  have hol' : (s.heap.push (set0 led)).get? x = some { cls := .type "list", dict := odict, data := .seq items nl, slots := oslots } := Heap.get?_push_of_some _ hol
  have hsls := PySem.F.sub_list_set
  have hslf := PySem.F.sub_list_frozenset
  have hne : (Value.type "list" == Value.type "dict") = false := by decide
  have hl1 : (s.heap.push (set0 led)).IsList x items := ⟨_, hol', rfl, nl, rfl⟩
  unfold Builtin.«set.__init__» noKeywords Builtin.Frozenset.updateFrom
  generalize hPI : pyIter = PI
  wp_walk
  subst hPI
  refine wpAny_pyIter_list hl1 (wpAny_bind (wpAny_runValue ?_))
  have hlS : x < s.heap.objs.size := Heap.lt_size hol
  have hh3 : A.in1.in1.in1.handled = none := by simp [hh]
  have hneI : x ≠ (s.heap.push (set0 led)).objs.size := by
    rw [Heap.size_push]
    exact Nat.ne_of_lt (Nat.lt_succ_of_lt hlS)
  have hSf : s.heap.objs.size ∉ [(s.heap.push (set0 led)).objs.size, x] := by
    rw [Heap.size_push]
    simp only [List.mem_cons, List.mem_singleton, List.not_mem_nil, or_false, not_or]
    exact ⟨Nat.ne_of_lt (Nat.lt_succ_self _), Nat.ne_of_gt hlS⟩
  have hsz : xs.length = items.size := by rw [← StrsAre.len_eq hi, Array.length_toList]
  have hval : ∀ (i : Nat) (v : Value), items[i]? = some v → ∃ t, v = .str (xs.getD i Str.empty) t := fun i v hv => SS.strs_at hi i v (by rw [Array.getElem?_toList]; exact hv)
  refine fill_loop ((Walks.list hh3 _ x hneI items).toS) s.heap.objs.size hSf xs hsz (by rw [← hsz]; exact hn) hval (items.size - 0) 0 _ (by omega) (Nat.zero_le _) ⟨⟨_, Heap.get?_push_size _ rfl, rfl, rfl⟩, (hl1.push _)⟩ ?hS0 ?hR
  case hS0 =>
    have hget : ((s.heap.push (set0 led)).push { cls := .type "list_iterator", data := .fields #[.ref x, .int 0 0] }).get? s.heap.objs.size = some (set0 led) := Heap.get?_push_of_some _ hS
    exact PyProof.Rows.SetOf_congr ((PyProof.Rows.setObjOf_fresh (knd := PySem.strKind prog w) led).setOf hget (by unfold scanBound; omega)) (fun _ => rfl) rfl
  case hR =>
    intro s' hm hS'
    obtain ⟨h', g', d', tk', os'⟩ := s'
    obtain rfl : g' = s.gens := hm.gens
    obtain rfl : d' = s.drawn := hm.drawn
    obtain rfl : os' = s.os := hm.os
    show wpAny _ _ _ _ _ _
    refine wpAny_pure ?_
    show wpAny _ _ (ret Value.none) _ _ _
    refine wpAny_pure (hR h' tk' hS' fun b o hb e => ?_)
    have hb1 : b ≠ s.heap.objs.size := Nat.ne_of_lt hb
    have hb2 : b ≠ (s.heap.push (set0 led)).objs.size := by
      rw [Heap.size_push]
      exact Nat.ne_of_lt (Nat.lt_succ_of_lt hb)
    exact hm.heap b o (by simp only [List.mem_cons, List.mem_singleton, List.not_mem_nil, or_false, not_or]; exact ⟨hb1, hb2⟩) (Heap.get?_push_of_some _ (Heap.get?_push_of_some _ e))
theorem set_tuple {x : Addr} {items : Array Value} {xs : List Str} {Q : Value → Shared → Prop} (hh : A.handled = none) (hl : s.heap.IsTuple x items) (hi : PyProof.Rows.StrsAre items.toList xs) (hn : xs.length ≤ 60)
    (h : ∀ (h' : Heap) (tk : Nat), h'.SetOf (PySem.strKind prog w) s.heap.objs.size (fun y => (xs.take items.size).any (· == y)) (cntD (xs.take items.size)) → (∀ b o, b < s.heap.objs.size → s.heap.get? b = some o → h'.get? b = some o) → Q (.ref s.heap.objs.size) { s with heap := h', toks := tk }) :
    wpAny (model prog w) A (call (.type "set") [.ref x]) Q E s := by
  refine set_by (n := items.size) (fun led R E' hR => ?_) h
  obtain ⟨⟨ocls, odict, odata, oslots⟩, hol, hcl, nl, hdl⟩ := hl
  simp only at hcl hdl
  subst hcl
  subst hdl
  have hS : (s.heap.push (set0 led)).get? s.heap.objs.size = some (set0 led) := Heap.get?_push_size _ rfl
  have hol' : (s.heap.push (set0 led)).get? x = some { cls := .type "tuple", dict := odict, data := .seq items nl, slots := oslots } := Heap.get?_push_of_some _ hol
  have hsls := PySem.F.sub_tuple_set
  have hslf := PySem.F.sub_tuple_frozenset
  have hne : (Value.type "tuple" == Value.type "dict") = false := by decide
  have hl1 : (s.heap.push (set0 led)).IsTuple x items := ⟨_, hol', rfl, nl, rfl⟩
  unfold Builtin.«set.__init__» noKeywords Builtin.Frozenset.updateFrom
  generalize hPI : pyIter = PI
  wp_walk
  subst hPI
  refine wpAny_pyIter_tuple hl1 (wpAny_bind (wpAny_runValue ?_))
  have hlS : x < s.heap.objs.size := Heap.lt_size hol
  have hh3 : A.in1.in1.in1.handled = none := by simp [hh]
  have hneI : x ≠ (s.heap.push (set0 led)).objs.size := by
    rw [Heap.size_push]
    exact Nat.ne_of_lt (Nat.lt_succ_of_lt hlS)
  have hSf : s.heap.objs.size ∉ [(s.heap.push (set0 led)).objs.size, x] := by
    rw [Heap.size_push]
    simp only [List.mem_cons, List.mem_singleton, List.not_mem_nil, or_false, not_or]
    exact ⟨Nat.ne_of_lt (Nat.lt_succ_self _), Nat.ne_of_gt hlS⟩
  have hsz : xs.length = items.size := by rw [← StrsAre.len_eq hi, Array.length_toList]
  have hval : ∀ (i : Nat) (v : Value), items[i]? = some v → ∃ t, v = .str (xs.getD i Str.empty) t := fun i v hv => SS.strs_at hi i v (by rw [Array.getElem?_toList]; exact hv)
  refine fill_loop ((Walks.tuple hh3 _ x hneI items).toS) s.heap.objs.size hSf xs hsz (by rw [← hsz]; exact hn) hval (items.size - 0) 0 _ (by omega) (Nat.zero_le _) ⟨⟨_, Heap.get?_push_size _ rfl, rfl, rfl⟩, (hl1.push _)⟩ ?hS0 ?hR
  case hS0 =>
    have hget : ((s.heap.push (set0 led)).push { cls := .type "tuple_iterator", data := .fields #[.ref x, .int 0 0] }).get? s.heap.objs.size = some (set0 led) := Heap.get?_push_of_some _ hS
    exact PyProof.Rows.SetOf_congr ((PyProof.Rows.setObjOf_fresh (knd := PySem.strKind prog w) led).setOf hget (by unfold scanBound; omega)) (fun _ => rfl) rfl
  case hR =>
    intro s' hm hS'
    obtain ⟨h', g', d', tk', os'⟩ := s'
    obtain rfl : g' = s.gens := hm.gens
    obtain rfl : d' = s.drawn := hm.drawn
    obtain rfl : os' = s.os := hm.os
    show wpAny _ _ _ _ _ _
    refine wpAny_pure ?_
    show wpAny _ _ (ret Value.none) _ _ _
    refine wpAny_pure (hR h' tk' hS' fun b o hb e => ?_)
    have hb1 : b ≠ s.heap.objs.size := Nat.ne_of_lt hb
    have hb2 : b ≠ (s.heap.push (set0 led)).objs.size := by
      rw [Heap.size_push]
      exact Nat.ne_of_lt (Nat.lt_succ_of_lt hb)
    exact hm.heap b o (by simp only [List.mem_cons, List.mem_singleton, List.not_mem_nil, or_false, not_or]; exact ⟨hb1, hb2⟩) (Heap.get?_push_of_some _ (Heap.get?_push_of_some _ e))
end
open L2
/-- len(set(xs)), xs a list or tuple of texts -/
def tLenD (K : PySem.W.Frag) (ta : TE) : TE := fun σ H Q => ta σ H fun x H1 => ∃ l, ∃ xs : List Str, x = .ref l ∧ (SqL K H1 l (xs.map V.str) ∨ SqT K H1 l (xs.map V.str)) ∧ xs.length ≤ 60 ∧ Q (.int (cntD xs : Nat)) H1
theorem pe_lenD {X : Cx} {a : Expr} {ta : TE} {p p2 q pos : Pos} (hc : X.calm = true) (hg : Gl X "len") (hm : X.mg "len" = none) (hg2 : Gl X "set") (hm2 : X.mg "set" = none) (ha : PE X a ta)
    (na : starEach [a] X.env = (false, eval a X.env) :: starEach [] X.env := by rfl) : PE X (.Call (.Name "len" p) [.Call (.Name "set" p2) [a] [] q] [] pos) (tLenD X.K ta) := by
  refine ⟨fun pns s τ G Q I h => ?_⟩
  refine Call_ (ld_blt I hg hm boot_len (PyProof.Rows.callWith_builtin1 (PyProof.Rows.args_cons (Call_ (ld_blt I hg2 hm2 boot_set ?_)) rfl) rfl rfl))
  refine PyProof.Rows.callWith_type1 (PyProof.Rows.args_cons (thn (ha.run pns s τ G _ I h) fun v s1 ⟨x, H1, I1, r1, q1⟩ => PyProof.Rows.args_nil ?_) na) na rfl
  obtain ⟨l, xs, rfl, hq, h1, q1⟩ := q1
  cases r1
  have fin : ∀ (its : List Value), Vals (xs.map V.str) its → ∀ (h' : Heap) (tk : Nat), h'.SetOf (PySem.strKind X.prog X.w) s1.heap.objs.size (fun y => (xs.take its.toArray.size).any (· == y)) (cntD (xs.take its.toArray.size)) →
      (∀ b o, b < s1.heap.objs.size → s1.heap.get? b = some o → h'.get? b = some o) →
      wpAny (model X.prog X.w) X.A (spliced (backTo pos (starEach [] X.env))) (fun vs s₂ => wpAny (model X.prog X.w) X.A (call (.builtin "len") (Value.ref s1.heap.objs.size :: vs)) (EP X pns τ Q) X.xe s₂) X.xe { s1 with heap := h', toks := tk } := fun its r h' tk hS hk => by
    refine PyProof.Rows.args_nil ?_
    have hl : its.toArray.size = xs.length := by rw [List.size_toArray, ← r.length, List.length_map]
    rw [hl, List.take_length] at hS
    obtain ⟨o, es, ep, t, ho, hex, hd, _, _, _, hf, hn⟩ := hS
    have I2 : Inv X pns τ H1 { s1 with heap := h', toks := tk } := I1.kept fun b o e => hk b o (Heap.lt_size e) e
    have hle := cntD_le xs
    exact call_len_set ho hex hd hf (by rw [hn] <;> omega) ⟨.int (cntD xs : Nat), H1, I2.tok _, ⟨_, by rw [hn]⟩, q1⟩
  rcases hq with hq | hq
  · obtain ⟨its, r, pl, hz⟩ := I1.list hq
    exact set_list (I1.ok.hd hc) pl.isList (by simpa using strsAre_of r) h1 fun h' tk hS hk => fin its r h' tk hS hk
  · obtain ⟨its, r, pl, hz⟩ := I1.tuple hq
    exact set_tuple (I1.ok.hd hc) pl (by simpa using strsAre_of r) h1 fun h' tk hS hk => fin its r h' tk hS hk
end Pw

set_option Elab.async false
set_option linter.all false
set_option maxRecDepth 100000
set_option maxHeartbeats 2000000
namespace Pw
open PySem PySem.Spec PyProof.Rows
/-! texts in order, each list of them just once -/
theorem rising_pw : ∀ (p : Str) (l : List Str), risingS p l = true → (p :: l).Pairwise (fun a b => a.cps.toList ≤ b.cps.toList)
  | p, [], _ => List.pairwise_singleton _ _
  | p, x :: r, h => by
    have h2 : (!ltCps x.cps.toList p.cps.toList && risingS x r) = true := h
    rw [Bool.and_eq_true] at h2
    have ih := rising_pw x r h2.2
    have h3 : ¬ (x.cps.toList < p.cps.toList) := by
      have := h2.1
      rw [ltCps_eq] at this
      simpa using this
    have h4 : p.cps.toList ≤ x.cps.toList := h3
    refine List.pairwise_cons.mpr ⟨fun b hb => ?_, ih⟩
    rcases List.mem_cons.mp hb with rfl | hb
    · exact h4
    · exact List.le_trans h4 ((List.pairwise_cons.mp ih).1 b hb)
theorem sortedS_pw {l : List Str} (h : sortedS l = true) : l.Pairwise (fun a b => a.cps.toList ≤ b.cps.toList) := by
  cases l with
  | nil => exact List.Pairwise.nil
  | cons x r => exact rising_pw x r h
theorem str_eq {a b : Str} (h : a.cps.toList = b.cps.toList) : a = b := by
  cases a with
  | mk x =>
    cases b with
    | mk y =>
      have : x = y := Array.toList_inj.mp h
      rw [this]
theorem sortedS_one {a b : List Str} (p : a.Perm b) (ha : sortedS a = true) (hb : sortedS b = true) : a = b :=
  List.Perm.eq_of_pairwise (le := fun a b => a.cps.toList ≤ b.cps.toList) (fun x y _ _ h1 h2 => str_eq (List.le_antisymm h1 h2)) (sortedS_pw ha) (sortedS_pw hb) p
/-! sorted(tuple of texts) -/
section
variable {prog : Program} {w : World} {A : Around} {E : Value → Shared → Prop} {s : Shared}
theorem sorted_strsT {l : Addr} {vs : List Value} {ss : List Str} {Q : Value → Shared → Prop} (hl : IsTup s.heap l vs.toArray) (hS : StrsAre vs ss) (h64 : vs.length < 64)
    (h : ∀ (g : Heap) (out : Array Value) (ss' : List Str), (∀ b o, s.heap.get? b = some o → g.get? b = some o) → StrsAre out.toList ss' → ss'.Perm ss → sortedS ss' = true →
      Q (.ref g.objs.size) { s with heap := sortedHeap (g.push (seqObj "list" vs.toArray 0)) g.objs.size vs out }) :
    wpAny (model prog w) A (call (.builtin "sorted") [.ref l]) Q E s := by
  obtain ⟨o, ho, hc, n, hd⟩ := hl
  have hz : vs.toArray.size ≤ sizeLine := by
    rw [List.size_toArray, sizeLine_eq]
    omega
  refine Calls.call_function_entry kind_sorted plain_sorted entry_sorted (args_sorted1 _) ?_
  unfold Builtin.«sorted»
  refine wpAny_bind (m := checkCount "sorted" 1 1 _) (wpAny_pure (wpAny_bind (wpAny_collect_seq l (.inr rfl) ho hc hd (fun g hk => wpAny_bind (wpAny_newList ?_)) hz)))
  have hg : (g.push (seqObj "list" vs.toArray 0)).get? g.objs.size = some (seqObj "list" vs.toArray 0) := Heap.get?_push_size _ rfl
  refine wpAny_bind (wpAny_holding (wpAny_call_entry (s := { s with heap := g.push (seqObj "list" vs.toArray 0) }) slot_list_sort ⟨_, hg, rfl⟩ entry_list_sort
    (list_sort_treeK strKind_oneLt hg hS.keysOf (fun v₁ v₂ rest e => keyKind_strs (by rw [← e]; exact hS)) h64 fun st' a1 a2 => ⟨_, rfl, ?_⟩) (args_list_sort _)))
  obtain ⟨ss', h1, h2, h3⟩ := sorted_out_str hS a1 a2
  exact wpAny_pure ⟨_, rfl, h g _ ss' hk h1 h2 h3⟩
end
open L2
/-- sorted(xs), xs a list or a tuple of texts -/
def rSortedST (K : PySem.W.Frag) : List V → Hp → VK → Prop := fun vs H Q => ∃ (a : Addr) (xs : List Str), vs = [V.ref a] ∧ (SqL K H a (xs.map V.str) ∨ SqT K H a (xs.map V.str)) ∧ xs.length < 64 ∧
  ∀ (ys : List Str) (p : Addr), ys.Perm xs → sortedS ys = true → H p = none → Q (.ref p) (upd H p (.lst (ys.map V.str)))
theorem cr_sortedST {X : Cx} : CallR X (.builtin "sorted") (rSortedST X.K) := by
  intro pins s σ H vs us Q I r h
  obtain ⟨a, xs, rfl, hs, h64, q⟩ := h
  rcases hs with hs | hs
  · exact cr_sortedS pins s σ H [V.ref a] us Q I r ⟨a, xs, rfl, hs, h64, q⟩
  · obtain ⟨its, rv, hl, _⟩ := I.tuple hs
    rw [Vals.ref1 r]
    have hlen0 := rv.length
    rw [List.length_map] at hlen0
    refine sorted_strsT hl rv.strs (by rw [← hlen0]; exact h64) fun g out ys hk h1 h2 h3 => ?_
    have I1 : Inv X pins σ H { s with heap := g } := I.kept hk
    have hg : (g.push (seqObj "list" its.toArray 0)).get? g.objs.size = some (seqObj "list" its.toArray 0) := Heap.get?_push_size _ rfl
    obtain ⟨ep, he'⟩ := sortedHeap_at (out := out) hg
    have hlen : (ys.map V.str).length ≤ sizeLine := by rw [List.length_map, h2.length_eq]; exact small64 h64
    refine ⟨.ref _, upd H g.objs.size (.lst (ys.map V.str)), I1.laid (t' := s.toks) (fun b o e => ?_) (Nat.le_refl _) ⟨hlen, out.toList, ep, vals_of_strs h1, he'⟩, rfl, q ys _ h2 h3 (I1.hok.fresh (Nat.le_refl _))⟩
    have hb : b < g.objs.size := Heap.lt_size e
    rw [sortedHeap_old (Nat.ne_of_lt hb) (Nat.lt_of_lt_of_le hb (by rw [Heap.size_push]; exact Nat.le_succ _))]
    exact Heap.get?_push_of_some _ e
end Pw

set_option Elab.async false
set_option linter.all false
set_option maxRecDepth 100000
namespace Pw
open PySem PySem.Builtin PySem.Builtin.Str PySem.StrLaws TL

/-! ### where a word stands first -/
def Has (l w : List Nat) : Prop := ∃ i, w <+: l.drop i
/-- the end of the first place at which w stands -/
def fEnd : List Nat → List Nat → Option Nat
  | [], w => if w = [] then some 0 else none
  | c :: r, w => if w <+: c :: r then some w.length else (fEnd r w).map (· + 1)
theorem has_nil {w : List Nat} (hw : w ≠ []) : ¬ Has [] w := fun ⟨i, h⟩ => by
  rw [List.drop_nil] at h
  exact hw (List.prefix_nil.mp h)
theorem has_cons {c : Nat} {r w : List Nat} : Has (c :: r) w ↔ w <+: c :: r ∨ Has r w := by
  constructor
  · rintro ⟨i, h⟩
    cases i with
    | zero => exact .inl h
    | succ i => exact .inr ⟨i, h⟩
  · rintro (h | ⟨i, h⟩)
    · exact ⟨0, h⟩
    · exact ⟨i + 1, h⟩
theorem fEnd_spec : ∀ (l w : List Nat), w ≠ [] → (fEnd l w = none ∧ ∀ i, ¬ w <+: l.drop i) ∨ ∃ i, fEnd l w = some (i + w.length) ∧ w <+: l.drop i ∧ ∀ k, k < i → ¬ w <+: l.drop k
  | [], w, hw => by
    refine .inl ⟨?_, fun i h => ?_⟩
    · unfold fEnd
      rw [if_neg hw]
    · exact has_nil hw ⟨i, h⟩
  | c :: r, w, hw => by
    unfold fEnd
    by_cases h : w <+: c :: r
    · rw [if_pos h]
      exact .inr ⟨0, by rw [Nat.zero_add], h, fun k hk => absurd hk (Nat.not_lt_zero _)⟩
    · rw [if_neg h]
      rcases fEnd_spec r w hw with ⟨e, hn⟩ | ⟨i, e, hi, hk⟩
      · refine .inl ⟨by rw [e]; rfl, fun i => ?_⟩
        cases i with
        | zero => exact h
        | succ i => exact hn i
      · refine .inr ⟨i + 1, ?_, hi, fun k hk2 => ?_⟩
        · rw [e]
          show some (i + w.length + 1) = some (i + 1 + w.length)
          congr 1
          omega
        · cases k with
          | zero => exact h
          | succ k => exact hk k (by omega)
theorem fEnd_none {l w : List Nat} (hw : w ≠ []) : fEnd l w = none ↔ ¬ Has l w := by
  rcases fEnd_spec l w hw with ⟨e, hn⟩ | ⟨i, e, hi, hk⟩
  · exact ⟨fun _ ⟨i, h⟩ => hn i h, fun _ => e⟩
  · constructor
    · intro h
      rw [e] at h
      cases h
    · intro h
      exact absurd ⟨i, hi⟩ h
theorem fEnd_some {l w : List Nat} (hw : w ≠ []) : (fEnd l w).isSome = true ↔ Has l w := by
  cases h : fEnd l w with
  | none =>
    have := (fEnd_none hw).mp h
    exact ⟨fun z => (nomatch z), fun z => absurd z this⟩
  | some e =>
    refine ⟨fun _ => ?_, fun _ => rfl⟩
    rcases fEnd_spec l w hw with ⟨e, hn⟩ | ⟨i, e, hi, hk⟩
    · rw [h] at e
      cases e
    · exact ⟨i, hi⟩
theorem pre_room {l w : List Nat} {i : Nat} (hw : w ≠ []) (h : w <+: l.drop i) : i + w.length ≤ l.length := by
  have h1 := h.length_le
  rw [List.length_drop] at h1
  have h2 : 0 < w.length := List.length_pos_iff.mpr hw
  omega
theorem fEnd_le {l w : List Nat} {e : Nat} (hw : w ≠ []) (h : fEnd l w = some e) : e ≤ l.length := by
  rcases fEnd_spec l w hw with ⟨e1, hn⟩ | ⟨i, e1, hi, hk⟩
  · rw [h] at e1
    cases e1
  · rw [h] at e1
    have := pre_room hw hi
    have := Option.some.inj e1
    omega
theorem has_take {l w : List Nat} {k : Nat} (hw : w ≠ []) : Has (l.take k) w ↔ ∃ e, fEnd l w = some e ∧ e ≤ k := by
  constructor
  · rintro ⟨i, h⟩
    have h2 := pre_room hw h
    rw [List.length_take] at h2
    have h3 : w <+: l.drop i := by
      rw [List.drop_take] at h
      exact h.trans (List.take_prefix _ _)
    rcases fEnd_spec l w hw with ⟨e1, hn⟩ | ⟨j, e1, hj, hk⟩
    · exact absurd h3 (hn i)
    · refine ⟨_, e1, ?_⟩
      by_cases hij : i < j
      · exact absurd h3 (hk i hij)
      · omega
  · rintro ⟨e, h1, h2⟩
    rcases fEnd_spec l w hw with ⟨e1, hn⟩ | ⟨j, e1, hj, hk⟩
    · rw [h1] at e1
      cases e1
    · rw [h1] at e1
      have e2 := Option.some.inj e1
      refine ⟨j, ?_⟩
      rw [List.drop_take]
      exact List.prefix_take_iff.mpr ⟨hj, by omega⟩
/-! ### find and in -/
theorem at_pre {x y : Str} (hy : tl y ≠ []) (i : Nat) : At x y x.length i ↔ tl y <+: (tl x).drop i := by
  rw [at_iff hy]
  show (((tl x).drop i).take (tl y).length == tl y) = true ↔ _
  rw [beq_iff_eq, List.prefix_iff_eq_take]
  exact eq_comm
theorem find_end {x y : Str} (hy : tl y ≠ []) : (Txt.find x y < 0 ∧ fEnd (tl x) (tl y) = none) ∨ ∃ i : Nat, Txt.find x y = (i : Int) ∧ fEnd (tl x) (tl y) = some (i + (tl y).length) := by
  rcases PyProof.Rows.find_whole x y with ⟨h1, h2⟩ | ⟨i, h1, h2, h3⟩
  · refine .inl ⟨by omega, (fEnd_none hy).mpr fun ⟨i, h⟩ => h2 i ((at_pre hy i).mpr h)⟩
  · refine .inr ⟨i, h1, ?_⟩
    rcases fEnd_spec (tl x) (tl y) hy with ⟨e, hn⟩ | ⟨j, e, hj, hk⟩
    · exact absurd ((at_pre hy i).mp h2) (hn i)
    · rw [e]
      have a1 : ¬ i < j := fun z => hk i z ((at_pre hy i).mp h2)
      have a2 : ¬ j < i := fun z => h3 j z ((at_pre hy j).mpr hj)
      have : j = i := by omega
      rw [this]
theorem in_has {x y : Str} (hy : tl y ≠ []) : (!(occurrences x y 0 x.length 1).isEmpty) = (fEnd (tl x) (tl y)).isSome := by
  have h1 := found_iff x y
  have h2 := fEnd_some (l := tl x) hy
  have h3 : (∃ i, i + y.length ≤ x.length ∧ subAt x y i = true) ↔ Has (tl x) (tl y) :=
    ⟨fun ⟨i, h⟩ => ⟨i, (at_pre hy i).mp h⟩, fun ⟨i, h⟩ => ⟨i, (at_pre hy i).mpr h⟩⟩
  rw [Bool.eq_iff_iff, h1, h3, h2]
/-! ### runs as words -/
def zerosL (n : Nat) : List Nat := List.replicate n 48
def gapW (m : Nat) : List Nat := 49 :: (zerosL m ++ [49])
theorem has_app {a r w : List Nat} (hw : w ≠ []) (h49 : 49 ∉ w) : Has (a ++ 49 :: r) w ↔ Has a w ∨ Has r w := by
  induction a with
  | nil =>
    rw [List.nil_append, has_cons]
    constructor
    · rintro (h | h)
      · cases w with
        | nil => exact absurd rfl hw
        | cons d w =>
          have := (List.cons_prefix_cons.mp h).1
          exact absurd (List.mem_cons_self) (this ▸ h49)
      · exact .inr h
    · rintro (h | h)
      · exact absurd h (has_nil hw)
      · exact .inr h
  | cons c a ih =>
    rw [List.cons_append, has_cons, has_cons, ih]
    constructor
    · rintro (h | h | h)
      · refine .inl (.inl ?_)
        have hl : w.length ≤ (c :: a).length := by
          by_cases z : w.length ≤ (c :: a).length
          · exact z
          · exfalso
            obtain ⟨t, ht⟩ := h
            have e := congrArg (·[(c :: a).length]?) ht
            rw [List.getElem?_append_left (by omega)] at e
            have e2 : (c :: (a ++ 49 :: r))[(c :: a).length]? = some 49 := by
              rw [show c :: (a ++ 49 :: r) = (c :: a) ++ 49 :: r from rfl, List.getElem?_append_right (Nat.le_refl _), Nat.sub_self]
              rfl
            rw [e2] at e
            exact h49 (List.mem_of_getElem? e)
        rw [show c :: (a ++ 49 :: r) = (c :: a) ++ 49 :: r from rfl] at h
        have h2 := List.prefix_iff_eq_take.mp h
        rw [List.take_append_of_le_length hl] at h2
        exact List.prefix_iff_eq_take.mpr h2
      · exact .inl (.inr h)
      · exact .inr h
    · rintro ((h | h) | h)
      · refine .inl ?_
        rw [show c :: (a ++ 49 :: r) = (c :: a) ++ 49 :: r from rfl]
        exact h.trans (List.prefix_append _ _)
      · exact .inr (.inl h)
      · exact .inr (.inr h)
theorem has_zeros (h k : Nat) : Has (zerosL k) (zerosL (h + 1)) ↔ h < k := by
  constructor
  · rintro ⟨i, hp⟩
    have := hp.length_le
    unfold zerosL at this
    rw [List.length_drop, List.length_replicate, List.length_replicate] at this
    omega
  · intro hk
    refine ⟨0, ?_⟩
    rw [List.drop_zero]
    unfold zerosL
    refine ⟨List.replicate (k - (h + 1)) 48, ?_⟩
    rw [List.replicate_append_replicate]
    congr 1
    omega
theorem zeros_ne (h : Nat) : zerosL (h + 1) ≠ [] := by
  unfold zerosL
  rw [List.replicate_succ]
  exact List.cons_ne_nil _ _
theorem zeros_no (h : Nat) : 49 ∉ zerosL h := fun z => by
  have := (List.mem_replicate.mp z).2
  omega
theorem zeros_snoc (k : Nat) (r : List Nat) : zerosL k ++ 48 :: r = zerosL (k + 1) ++ r := by
  unfold zerosL
  rw [List.replicate_succ', List.append_assoc]
  rfl
theorem idle_has (h : Nat) : ∀ (l : List Nat), Pure l → ∀ k, (∃ n ∈ runL k l, h < n) ↔ Has (zerosL k ++ l) (zerosL (h + 1))
  | [], _, k => by
    rw [List.append_nil, has_zeros]
    unfold runL
    simp
  | c :: r, hp, k => by
    have hr : Pure r := fun d hd => hp d (List.mem_cons_of_mem _ hd)
    unfold runL
    rcases hp c List.mem_cons_self with e | e
    · subst e
      rw [if_neg (by decide), idle_has h r hr (k + 1), zeros_snoc]
    · subst e
      rw [if_pos rfl, has_app (zeros_ne h) (zeros_no _), has_zeros]
      have ih := idle_has h r hr 0
      rw [show zerosL 0 ++ r = r from rfl] at ih
      rw [← ih]
      constructor
      · rintro ⟨n, hn, hl⟩
        rcases List.mem_cons.mp hn with z | z
        · exact .inl (z ▸ hl)
        · exact .inr ⟨n, z, hl⟩
      · rintro (z | ⟨n, z, hl⟩)
        · exact ⟨k, List.mem_cons_self, z⟩
        · exact ⟨n, List.mem_cons_of_mem _ z, hl⟩
theorem gap_ne (m : Nat) : gapW m ≠ [] := List.cons_ne_nil _ _
theorem has_48 {r : List Nat} {m : Nat} : Has (48 :: r) (gapW m) ↔ Has r (gapW m) := by
  rw [has_cons]
  refine ⟨fun h => ?_, .inr⟩
  rcases h with h | h
  · exact absurd (List.cons_prefix_cons.mp h).1 (by decide)
  · exact h
theorem has_zs {r : List Nat} {m : Nat} : ∀ k, Has (zerosL k ++ r) (gapW m) ↔ Has r (gapW m)
  | 0 => Iff.rfl
  | k + 1 => by
    have e : zerosL (k + 1) ++ r = 48 :: (zerosL k ++ r) := by
      unfold zerosL
      rw [List.replicate_succ]
      rfl
    rw [e, has_48, has_zs k]
theorem zeros_pre (r : List Nat) : ∀ (m k : Nat), zerosL m ++ [49] <+: zerosL k ++ 49 :: r ↔ m = k
  | 0, 0 => ⟨fun _ => rfl, fun _ => ⟨r, rfl⟩⟩
  | 0, k + 1 => by
    refine ⟨fun h => ?_, fun h => (nomatch h)⟩
    have : (49 : Nat) = 48 := (List.cons_prefix_cons.mp h).1
    exact absurd this (by decide)
  | m + 1, 0 => by
    refine ⟨fun h => ?_, fun h => (nomatch h)⟩
    have : (48 : Nat) = 49 := (List.cons_prefix_cons.mp h).1
    exact absurd this (by decide)
  | m + 1, k + 1 => by
    have e1 : zerosL (m + 1) ++ [49] = 48 :: (zerosL m ++ [49]) := by
      unfold zerosL
      rw [List.replicate_succ]
      rfl
    have e2 : zerosL (k + 1) ++ 49 :: r = 48 :: (zerosL k ++ 49 :: r) := by
      unfold zerosL
      rw [List.replicate_succ]
      rfl
    rw [e1, e2, List.cons_prefix_cons, zeros_pre r m k]
    omega
theorem gap_end (m : Nat) : ∀ k, ¬ zerosL m ++ [49] <+: zerosL k := fun k h => by
  have := h.subset (List.mem_append_right _ (List.mem_singleton.mpr rfl))
  exact zeros_no k this
theorem low_has (lo : Nat) : ∀ (l : List Nat), Pure l → ∀ k, (∃ n ∈ (runL k l).dropLast, n < lo) ↔ ∃ m, m < lo ∧ Has (49 :: (zerosL k ++ l)) (gapW m)
  | [], _, k => by
    unfold runL
    constructor
    · rintro ⟨n, hn, _⟩
      cases hn
    · rintro ⟨m, _, h⟩
      rw [List.append_nil, has_cons] at h
      rcases h with h | h
      · exact absurd (List.cons_prefix_cons.mp h).2 (gap_end m k)
      · have h2 := (has_zs (r := []) (m := m) k).mp (by rw [List.append_nil]; exact h)
        exact absurd h2 (has_nil (gap_ne m))
  | c :: r, hp, k => by
    have hr : Pure r := fun d hd => hp d (List.mem_cons_of_mem _ hd)
    unfold runL
    rcases hp c List.mem_cons_self with e | e
    · subst e
      rw [if_neg (by decide), low_has lo r hr (k + 1), zeros_snoc]
    · subst e
      have ih := low_has lo r hr 0
      rw [show zerosL 0 ++ r = r from rfl] at ih
      rw [if_pos rfl, List.dropLast_cons_of_ne_nil (runL_ne _ _)]
      have key : ∀ m, Has (49 :: (zerosL k ++ 49 :: r)) (gapW m) ↔ m = k ∨ Has (49 :: r) (gapW m) := fun m => by
        rw [has_cons, has_zs]
        unfold gapW
        rw [List.cons_prefix_cons, zeros_pre]
        constructor
        · rintro (⟨_, z⟩ | z)
          · exact .inl z
          · exact .inr z
        · rintro (z | z)
          · exact .inl ⟨rfl, z⟩
          · exact .inr z
      constructor
      · rintro ⟨n, hn, hl⟩
        rcases List.mem_cons.mp hn with z | z
        · exact ⟨k, z ▸ hl, (key k).mpr (.inl rfl)⟩
        · obtain ⟨m, hm, h2⟩ := ih.mp ⟨n, z, hl⟩
          exact ⟨m, hm, (key m).mpr (.inr h2)⟩
      · rintro ⟨m, hm, h2⟩
        rcases (key m).mp h2 with z | z
        · exact ⟨k, List.mem_cons_self, z ▸ hm⟩
        · obtain ⟨n, hn, hl⟩ := ih.mpr ⟨m, hm, z⟩
          exact ⟨n, List.mem_cons_of_mem _ hn, hl⟩
theorem low_first (lo : Nat) : ∀ (l : List Nat), Pure l → ∀ k, (∃ n ∈ ((runL k l).drop 1).dropLast, n < lo) ↔ ∃ m, m < lo ∧ Has l (gapW m)
  | [], _, k => by
    unfold runL
    constructor
    · rintro ⟨n, hn, _⟩
      cases hn
    · rintro ⟨m, _, h⟩
      exact absurd h (has_nil (gap_ne m))
  | c :: r, hp, k => by
    have hr : Pure r := fun d hd => hp d (List.mem_cons_of_mem _ hd)
    unfold runL
    rcases hp c List.mem_cons_self with e | e
    · subst e
      rw [if_neg (by decide), low_first lo r hr (k + 1)]
      constructor
      · rintro ⟨m, hm, h⟩
        exact ⟨m, hm, has_48.mpr h⟩
      · rintro ⟨m, hm, h⟩
        exact ⟨m, hm, has_48.mp h⟩
    · subst e
      rw [if_pos rfl, List.drop_succ_cons, List.drop_zero, low_has lo r hr 0]
      rfl
/-! ### the swing along a row -/
def wid (l : List Nat) : Int := (hiS l).2.1 - (hiS l).2.2
theorem wid_step (l : List Nat) (i : Nat) : wid (l.take i) ≤ wid (l.take (i + 1)) := by
  cases h : l[i]? with
  | none =>
    have hl := List.getElem?_eq_none_iff.mp h
    rw [List.take_of_length_le hl, List.take_of_length_le (by omega)]
    exact Int.le_refl _
  | some c =>
    rw [take_snoc h]
    unfold wid
    rw [hiS_snoc]
    dsimp only
    split <;> split <;> omega
theorem wid_mono (l : List Nat) {i k : Nat} (h : i ≤ k) : wid (l.take i) ≤ wid (l.take k) := by
  induction k with
  | zero =>
    have : i = 0 := by omega
    subst this
    exact Int.le_refl _
  | succ k ih =>
    by_cases e : i = k + 1
    · subst e
      exact Int.le_refl _
    · exact Int.le_trans (ih (by omega)) (wid_step l k)
/-- the first beginning that swings beyond s -/
def spanEnd (l : List Nat) : Option Int → Option Nat
  | none => none
  | some s => (List.range (l.length + 1)).find? fun i => decide (s < wid (l.take i))
theorem span_take {l : List Nat} {s : Int} {k : Nat} (hk : k ≤ l.length) : s < wid (l.take k) ↔ ∃ e, spanEnd l (some s) = some e ∧ e ≤ k := by
  unfold spanEnd
  dsimp only
  constructor
  · intro h
    cases hf : (List.range (l.length + 1)).find? fun i => decide (s < wid (l.take i)) with
    | none =>
      have := List.find?_eq_none.mp hf k (List.mem_range.mpr (by omega))
      exact absurd (decide_eq_true h) this
    | some e =>
      refine ⟨e, rfl, ?_⟩
      by_cases hek : e ≤ k
      · exact hek
      · have h2 := (List.find?_range_eq_some.mp hf).2.2 k (by omega)
        rw [decide_eq_true h] at h2
        cases h2
  · rintro ⟨e, he, hek⟩
    have h1 : s < wid (l.take e) := of_decide_eq_true (List.find?_some (p := fun i => decide (s < wid (l.take i))) he)
    exact Int.lt_of_lt_of_le h1 (wid_mono l hek)
theorem span_le {l : List Nat} {wd : Option Int} {e : Nat} (h : spanEnd l wd = some e) : e ≤ l.length := by
  cases wd with
  | none => cases h
  | some s =>
    have := List.mem_range.mp (List.mem_of_find?_eq_some h)
    omega
/-! ### what is lawful -/
/-- barred words, short gaps, long idles -/
def piecesL (xs : List Str) (lo : Int) (hi : Option Int) : List (List Nat) :=
  xs.map tl ++ (List.range lo.toNat).map gapW ++ (match hi with | none => [] | some h => [zerosL (h + 1).toNat])
def hiB (l : List Nat) : Option Int → Bool
  | none => true
  | some h => (runL 0 l).all fun n => decide ((n : Int) ≤ h)
def wdB (l : List Nat) : Option Int → Bool
  | none => true
  | some s => decide (wid l ≤ s)
def lawB (xs : List Str) (lo : Int) (hi wd : Option Int) (l : List Nat) : Bool :=
  !(xs.any fun y => (fEnd l (tl y)).isSome) &&
  (hiB l hi &&
  ((((runL 0 l).drop 1).dropLast.all fun n => decide (lo ≤ (n : Int))) &&
  wdB l wd))
def endsL (xs : List Str) (lo : Int) (hi wd : Option Int) (l : List Nat) : List (Option Nat) := (piecesL xs lo hi).map (fEnd l) ++ [spanEnd l wd]
theorem pieces_ne {xs : List Str} {lo : Int} {hi : Option Int} (hx : ∀ x ∈ xs, tl x ≠ []) (hh : ∀ h, hi = some h → 0 ≤ h) : ∀ w ∈ piecesL xs lo hi, w ≠ [] := by
  intro w hw
  unfold piecesL at hw
  rcases List.mem_append.mp hw with h | h
  · rcases List.mem_append.mp h with h | h
    · obtain ⟨x, h1, h2⟩ := List.mem_map.mp h
      exact h2 ▸ hx x h1
    · obtain ⟨x, h1, h2⟩ := List.mem_map.mp h
      exact h2 ▸ gap_ne x
  · cases hi with
    | none => cases h
    | some h' =>
      have h0 := hh h' rfl
      have e : w = zerosL (h' + 1).toNat := List.mem_singleton.mp h
      rw [e, show (h' + 1).toNat = h'.toNat + 1 by omega]
      exact zeros_ne _
theorem pure_take {l : List Nat} (h : Pure l) (k : Nat) : Pure (l.take k) := fun c hc => h c (List.mem_of_mem_take hc)
theorem all_false {α : Type} {l : List α} {p : α → Bool} : l.all p = false ↔ ∃ x ∈ l, p x = false := by
  rw [Bool.eq_false_iff, ne_eq, List.all_eq_true]
  constructor
  · intro h
    apply Classical.byContradiction
    intro h2
    refine h fun x hx => ?_
    cases e : p x with
    | true => rfl
    | false => exact absurd ⟨x, hx, e⟩ h2
  · rintro ⟨x, hx, e⟩ h
    rw [h x hx] at e
    cases e
theorem law_take {xs : List Str} {lo : Int} {hi wd : Option Int} {l : List Nat} {k : Nat} (hp : Pure l) (hx : ∀ x ∈ xs, tl x ≠ []) (hl : 0 ≤ lo) (hh : ∀ h, hi = some h → 0 ≤ h) (hk : k ≤ l.length) :
    lawB xs lo hi wd (l.take k) = false ↔ ∃ e, some e ∈ endsL xs lo hi wd l ∧ e ≤ k := by
  have hpk := pure_take hp k
  have hA : (∃ e, some e ∈ endsL xs lo hi wd l ∧ e ≤ k) ↔ (∃ x ∈ xs, Has (l.take k) (tl x)) ∨ (∃ m, m < lo.toNat ∧ Has (l.take k) (gapW m)) ∨ (∃ h, hi = some h ∧ Has (l.take k) (zerosL (h + 1).toNat)) ∨ (∃ s, wd = some s ∧ s < wid (l.take k)) := by
    constructor
    · rintro ⟨e, he, hek⟩
      unfold endsL at he
      rcases List.mem_append.mp he with h | h
      · obtain ⟨w, hw, hf⟩ := List.mem_map.mp h
        have hne := pieces_ne hx hh w hw
        have hh2 : Has (l.take k) w := (has_take hne).mpr ⟨e, hf, hek⟩
        unfold piecesL at hw
        rcases List.mem_append.mp hw with h | h
        · rcases List.mem_append.mp h with h | h
          · obtain ⟨x, h1, h2⟩ := List.mem_map.mp h
            exact .inl ⟨x, h1, h2 ▸ hh2⟩
          · obtain ⟨m, h1, h2⟩ := List.mem_map.mp h
            exact .inr (.inl ⟨m, List.mem_range.mp h1, h2 ▸ hh2⟩)
        · cases hi with
          | none => cases h
          | some h' => exact .inr (.inr (.inl ⟨h', rfl, (List.mem_singleton.mp h) ▸ hh2⟩))
      · have h2 := (List.mem_singleton.mp h).symm
        cases wd with
        | none => cases h2
        | some s => exact .inr (.inr (.inr ⟨s, rfl, (span_take hk).mpr ⟨e, h2, hek⟩⟩))
    · have put : ∀ w, w ∈ piecesL xs lo hi → Has (l.take k) w → ∃ e, some e ∈ endsL xs lo hi wd l ∧ e ≤ k := fun w hw h => by
        obtain ⟨e, h1, h2⟩ := (has_take (pieces_ne hx hh w hw)).mp h
        exact ⟨e, List.mem_append_left _ (List.mem_map.mpr ⟨w, hw, h1⟩), h2⟩
      rintro (⟨x, h1, h2⟩ | ⟨m, h1, h2⟩ | ⟨h, rfl, h2⟩ | ⟨s, rfl, h2⟩)
      · exact put _ (List.mem_append_left _ (List.mem_append_left _ (List.mem_map.mpr ⟨x, h1, rfl⟩))) h2
      · exact put _ (List.mem_append_left _ (List.mem_append_right _ (List.mem_map.mpr ⟨m, List.mem_range.mpr h1, rfl⟩))) h2
      · exact put _ (List.mem_append_right _ (List.mem_singleton.mpr rfl)) h2
      · obtain ⟨e, h3, h4⟩ := (span_take hk).mp h2
        exact ⟨e, List.mem_append_right _ (List.mem_singleton.mpr h3.symm), h4⟩
  rw [hA]
  unfold lawB
  rw [Bool.and_eq_false_iff, Bool.and_eq_false_iff, Bool.and_eq_false_iff]
  have b1 : (!(xs.any fun y => (fEnd (l.take k) (tl y)).isSome)) = false ↔ ∃ x ∈ xs, Has (l.take k) (tl x) := by
    rw [Bool.not_eq_false', List.any_eq_true]
    constructor
    · rintro ⟨x, h1, h2⟩
      exact ⟨x, h1, (fEnd_some (hx x h1)).mp h2⟩
    · rintro ⟨x, h1, h2⟩
      exact ⟨x, h1, (fEnd_some (hx x h1)).mpr h2⟩
  have b2 : hiB (l.take k) hi = false ↔ ∃ h, hi = some h ∧ Has (l.take k) (zerosL (h + 1).toNat) := by
    cases hi with
    | none => exact ⟨fun z => (nomatch z), fun ⟨_, z, _⟩ => (nomatch z)⟩
    | some h =>
      have h0 := hh h rfl
      have ih := idle_has h.toNat (l.take k) hpk 0
      rw [show zerosL 0 ++ l.take k = l.take k from rfl, show h.toNat + 1 = (h + 1).toNat by omega] at ih
      show (runL 0 (l.take k)).all (fun n => decide ((n : Int) ≤ h)) = false ↔ _
      rw [all_false]
      constructor
      · rintro ⟨n, h1, h2⟩
        have := of_decide_eq_false h2
        exact ⟨h, rfl, ih.mp ⟨n, h1, by omega⟩⟩
      · rintro ⟨h', e, h2⟩
        obtain rfl : h = h' := Option.some.inj e
        obtain ⟨n, h3, h4⟩ := ih.mpr h2
        exact ⟨n, h3, decide_eq_false (by omega)⟩
  have b3 : (((runL 0 (l.take k)).drop 1).dropLast.all fun n => decide (lo ≤ (n : Int))) = false ↔ ∃ m, m < lo.toNat ∧ Has (l.take k) (gapW m) := by
    rw [← low_first lo.toNat (l.take k) hpk 0, all_false]
    constructor
    · rintro ⟨n, h1, h2⟩
      have := of_decide_eq_false h2
      exact ⟨n, h1, by omega⟩
    · rintro ⟨n, h1, h2⟩
      exact ⟨n, h1, decide_eq_false (by omega)⟩
  have b4 : wdB (l.take k) wd = false ↔ ∃ s, wd = some s ∧ s < wid (l.take k) := by
    cases wd with
    | none => exact ⟨fun z => (nomatch z), fun ⟨_, z, _⟩ => (nomatch z)⟩
    | some s =>
      constructor
      · intro h
        have := of_decide_eq_false h
        exact ⟨s, rfl, by omega⟩
      · rintro ⟨s', e, h2⟩
        obtain rfl : s = s' := Option.some.inj e
        exact decide_eq_false (by omega)
  rw [b1, b2, b3, b4]
  constructor
  · rintro (h | h | h | h)
    · exact .inl h
    · exact .inr (.inr (.inl h))
    · exact .inr (.inl h)
    · exact .inr (.inr (.inr h))
  · rintro (h | h | h | h)
    · exact .inl h
    · exact .inr (.inr (.inl h))
    · exact .inr (.inl h)
    · exact .inr (.inr (.inr h))
/-! ### the least of a list, None of none -/
def MinOf (o : Option Int) (ns : List Int) : Prop := (o = none ∧ ns = []) ∨ ∃ m, o = some m ∧ m ∈ ns ∧ ∀ y ∈ ns, m ≤ y
def somesI (os : List (Option Nat)) : List Int := (os.filterMap id).map fun (n : Nat) => (n : Int)
def badsL (xs : List Str) (lo : Int) (hi wd : Option Int) (l : List Nat) (n : Nat) : List Int := ((List.range n).filter fun k => !(lawB xs lo hi wd (l.take k))).map fun (n : Nat) => (n : Int)
theorem mem_somes {os : List (Option Nat)} {y : Int} : y ∈ somesI os ↔ ∃ e : Nat, some e ∈ os ∧ y = (e : Int) := by
  unfold somesI
  rw [List.mem_map]
  constructor
  · rintro ⟨e, h1, h2⟩
    obtain ⟨o, h3, h4⟩ := List.mem_filterMap.mp h1
    refine ⟨e, ?_, h2.symm⟩
    have : o = some e := h4
    rw [← this]
    exact h3
  · rintro ⟨e, h1, h2⟩
    exact ⟨e, List.mem_filterMap.mpr ⟨some e, h1, rfl⟩, h2.symm⟩
theorem ends_le {xs : List Str} {lo : Int} {hi wd : Option Int} {l : List Nat} (hx : ∀ x ∈ xs, tl x ≠ []) (hh : ∀ h, hi = some h → 0 ≤ h) {e : Nat} (h : some e ∈ endsL xs lo hi wd l) : e ≤ l.length := by
  unfold endsL at h
  rcases List.mem_append.mp h with h | h
  · obtain ⟨w, hw, hf⟩ := List.mem_map.mp h
    exact fEnd_le (pieces_ne hx hh w hw) hf
  · exact span_le (List.mem_singleton.mp h).symm
theorem fault_is {xs : List Str} {lo : Int} {hi wd : Option Int} {l : List Nat} {o u : Option Int} (hp : Pure l) (hx : ∀ x ∈ xs, tl x ≠ []) (hl : 0 ≤ lo) (hh : ∀ h, hi = some h → 0 ≤ h)
    (ho : MinOf o (somesI (endsL xs lo hi wd l))) (hu : MinOf u (badsL xs lo hi wd l (l.length + 1))) : o = u := by
  have key : ∀ k, k ≤ l.length → (((k : Nat) : Int) ∈ badsL xs lo hi wd l (l.length + 1) ↔ ∃ e, some e ∈ endsL xs lo hi wd l ∧ e ≤ k) := fun k hk => by
    rw [← law_take hp hx hl hh hk]
    unfold badsL
    rw [List.mem_map]
    constructor
    · rintro ⟨j, h1, h2⟩
      have : j = k := by omega
      subst this
      have h3 := (List.mem_filter.mp h1).2
      simpa using h3
    · intro h
      exact ⟨k, List.mem_filter.mpr ⟨List.mem_range.mpr (by omega), by rw [h]; rfl⟩, rfl⟩
  have inb : ∀ y ∈ badsL xs lo hi wd l (l.length + 1), ∃ k : Nat, y = (k : Int) ∧ k ≤ l.length := fun y hy => by
    unfold badsL at hy
    obtain ⟨k, h1, h2⟩ := List.mem_map.mp hy
    have := List.mem_range.mp (List.mem_filter.mp h1).1
    exact ⟨k, h2.symm, by omega⟩
  rcases ho with ⟨rfl, h1⟩ | ⟨m, rfl, h1, h2⟩
  · rcases hu with ⟨rfl, _⟩ | ⟨n, rfl, h3, _⟩
    · rfl
    · obtain ⟨k, rfl, hk⟩ := inb n h3
      obtain ⟨e, he, _⟩ := (key k hk).mp h3
      have : (e : Int) ∈ somesI (endsL xs lo hi wd l) := mem_somes.mpr ⟨e, he, rfl⟩
      rw [h1] at this
      cases this
  · obtain ⟨e, he, rfl⟩ := mem_somes.mp h1
    have hel := ends_le hx hh he
    have hb : ((e : Nat) : Int) ∈ badsL xs lo hi wd l (l.length + 1) := (key e hel).mpr ⟨e, he, Nat.le_refl _⟩
    rcases hu with ⟨rfl, h3⟩ | ⟨n, rfl, h3, h4⟩
    · rw [h3] at hb
      cases hb
    · congr 1
      obtain ⟨k, rfl, hk⟩ := inb n h3
      obtain ⟨e2, he2, hle⟩ := (key k hk).mp h3
      have a1 := h4 _ hb
      have a2 := h2 _ (mem_somes.mpr ⟨e2, he2, rfl⟩)
      omega
theorem min_none {o : Option Int} {ns : List Int} (h : MinOf o ns) : o.isNone = decide (ns = []) := by
  rcases h with ⟨rfl, rfl⟩ | ⟨m, rfl, h1, _⟩
  · rfl
  · rw [decide_eq_false (fun z => by rw [z] at h1; cases h1)]
    rfl
end Pw

set_option Elab.async false
set_option linter.all false
set_option maxRecDepth 100000
set_option maxHeartbeats 4000000
namespace Pw
open PySem PySem.Spec PyProof.Rows L2 TL
/-- a number or None -/
def vO : Option Int → V
  | none => .non
  | some i => .int i
theorem fold_min : ∀ (ns : List Int) (n : Int), ns.foldl min n ∈ n :: ns ∧ ∀ y ∈ n :: ns, ns.foldl min n ≤ y
  | [], n => ⟨List.mem_cons_self, fun y hy => by rw [List.mem_singleton.mp hy]; exact Int.le_refl _⟩
  | k :: r, n => by
    obtain ⟨h1, h2⟩ := fold_min r (min n k)
    rw [List.foldl_cons]
    refine ⟨?_, fun y hy => ?_⟩
    · rcases List.mem_cons.mp h1 with z | z
      · rw [z]
        by_cases h : n ≤ k
        · rw [Int.min_eq_left h]
          exact List.mem_cons_self
        · rw [Int.min_eq_right (by omega)]
          exact List.mem_cons_of_mem _ List.mem_cons_self
      · exact List.mem_cons_of_mem _ (List.mem_cons_of_mem _ z)
    · have hm := h2 (min n k) List.mem_cons_self
      rcases List.mem_cons.mp hy with z | z
      · rw [z]
        exact Int.le_trans hm (Int.min_le_left _ _)
      · rcases List.mem_cons.mp z with z | z
        · rw [z]
          exact Int.le_trans hm (Int.min_le_right _ _)
        · exact h2 y (List.mem_cons_of_mem _ z)
/-- min(xs, default=None) of a list of ints -/
def rMinD (K : PySem.W.Frag) : List V → List V → Hp → VK → Prop := fun vs zs H Q => ∃ (a : Addr) (ns : List Int), vs = [V.ref a] ∧ zs = [.non] ∧ SqL K H a (ns.map V.int) ∧ ∀ o, MinOf o ns → Q (vO o) H
theorem crk_min {X : Cx} (hc : X.calm = true) (hu : X.A.units + 64 < cLine) : CallRK X (.builtin "min") ["default"] (rMinD X.K) := by
  intro pins s σ H vs zs us ws Q I r rz h
  obtain ⟨a, ns, rfl, rfl, hs, q⟩ := h
  obtain ⟨its, rv, hl, _⟩ := I.list hs
  rw [Vals.ref1 r]
  obtain ⟨u, rfl, ru⟩ := rz.one
  cases (show u = Value.none from ru)
  have h0 := PyProof.Rows.depthAll_ints ns
  refine PySem.W.min_list_default (xs := ns.map PyData.int) (as := []) (I.ok.hd hc) hl.isList (by simpa using IntsAre.reads s.heap rv.ints) ?_ (by rw [h0]; omega) (fun e h' tk hk => ?_) (fun y ys i v h' tk bs e hi rd hk => ?_)
  · exact PySem.W.alikeAll_datum ns
  · refine ⟨.non, H, I.kept hk, rfl, ?_⟩
    exact q none (.inl ⟨rfl, List.map_eq_nil_iff.mp e⟩)
  · cases ns with
    | nil => cases e
    | cons n r2 =>
      rw [List.map_cons] at e
      injection e with e1 e2
      subst e1
      subst e2
      rw [PySem.W.minD_ints] at rd
      obtain ⟨t, rfl⟩ : ∃ t, v = .int (r2.foldl min n) t := by
        cases rd
        exact ⟨_, rfl⟩
      obtain ⟨h1, h2⟩ := fold_min r2 n
      exact ⟨.int _, H, I.kept hk, ⟨_, rfl⟩, q (some _) (.inr ⟨_, rfl, h1, h2⟩)⟩
/-- text * number -/
theorem op_mulS {X : Cx} : OpR X (binaryOp .Mult) (fun x y H Q => ∃ (z : Str) (n : Nat), x = .str z ∧ y = .int (n : Nat) ∧ z.length ≤ 1 ∧ n ≤ 1000 ∧ Q (.str (Txt.mul z (n : Int))) H) := by
  intro pins s σ H x y v u Q I rx ry h
  obtain ⟨z, n, rfl, rfl, hz, hn, q⟩ := h
  obtain ⟨t, rfl⟩ := (show ∃ t, v = Value.str z t from rx)
  obtain ⟨t', rfl⟩ := (show ∃ t, u = Value.int (n : Nat) t from ry)
  refine SB.mul ⟨?_, fun h1 h2 => ?_, fun h1 h2 => ?_⟩ fun t2 k => ⟨.str _, H, I.tok k, ⟨_, rfl⟩, q⟩
  · rw [decide_eq_false (by omega), decide_eq_false (by omega)]
    rfl
  · have h3 : (1 : Int) ≤ (2 ^ 63 - 1) / (n : Int) := by
      rw [Int.le_ediv_iff_mul_le (by omega)]
      omega
    omega
  · have h3 : z.length * ((n : Int)).toNat ≤ 1000 := Nat.le_trans (Nat.mul_le_mul hz (show ((n : Int)).toNat ≤ 1000 by omega)) (by decide)
    generalize z.length * ((n : Int)).toNat = k at h3
    show decide _ = false
    refine decide_eq_false fun z => ?_
    exact absurd (Nat.lt_of_lt_of_le z h3) (by decide)
theorem tl_mul (c n : Nat) : tl (Txt.mul ⟨#[c]⟩ (n : Int)) = List.replicate n c := PyProof.Rows.mul_one_list c n
/-- for i, x in enumerate(list) -/
theorem for_enumL {K : PySem.W.Frag} {a : Addr} {xs : List V} {g : TG} {tb : TS} {D : Ends} {σ : L2.St} {H : Hp} (Pv : Nat → L2.St → Hp → Prop) (h0 : Pv 0 σ H) (hl : ∀ i σ H, i ≤ xs.length → Pv i σ H → SqL K H a xs)
    (hs : ∀ i x σ H T, xs[i]? = some x → Pv i σ H → H T = none → g (.ref T) σ (upd H T (.tup [.int (i : Nat), x])) fun σ2 H2 => tb { D with nx := Pv (i + 1), ct := Pv (i + 1), bk := D.nx } σ2 H2)
    (hd : ∀ σ H, Pv xs.length σ H → D.nx σ H) :
    ∃ W : Nat → Nat → L2.St → Hp → Prop, (∃ m, W 0 m σ H) ∧ ∀ i m σ H, W i m σ H →
      ((Ite K a).stop i H ∧ D.nx σ H) ∨ ((Ite K a).go i H ∧ ∃ N : L2.St → Hp → Prop, (∀ σ' H', N σ' H' → ∃ m', m' < m ∧ W (i + 1) m' σ' H') ∧ ∀ v H', (Ite K a).yld i H v H' → g v σ H' fun σ2 H2 => tb { D with nx := N, ct := N, bk := D.nx } σ2 H2) := by
  refine ⟨fun i m σ H => m = xs.length - i ∧ i ≤ xs.length ∧ Pv i σ H, ⟨xs.length, by simp, Nat.zero_le _, h0⟩, ?_⟩
  rintro i m σ H ⟨rfl, hi, p⟩
  have q := hl i σ H hi p
  by_cases hlt : i < xs.length
  · refine .inr ⟨⟨xs, xs[i], q, by simp [hlt]⟩, Pv (i + 1), fun σ' H' p' => ⟨xs.length - (i + 1), by omega, rfl, hlt, p'⟩, fun v H' y => ?_⟩
    obtain ⟨T, x, rfl, nT, rfl, y⟩ := y
    exact hs i x σ H T (y xs q) p nT
  · have e : i = xs.length := by omega
    subst e
    exact .inl ⟨⟨xs, q, Nat.le_refl _⟩, hd σ H p⟩
/-- [.. for c in text ..] -/
theorem lc_str {z : Str} {g : TG} {tt : TT} {te : TE} {vs : List Nat} {σ : L2.St} {H1 : Hp} {D : Addr} {Qd : Hp → Prop} (Pv : Nat → Hp → Prop) (h0 : Pv 0 (upd H1 D (.lst [])))
    (hs : ∀ i c H, z.cps[i]? = some c → Pv i H → g (.str ⟨#[c]⟩) (wipe σ vs) H fun σ2 H2 => wipe σ2 vs = wipe σ vs ∧ tt σ2 H2 fun b H3 =>
      if b = true then te σ2 H3 fun y H4 => ∃ acc, H4 D = some (.lst acc) ∧ acc.length < sizeLine ∧ Pv (i + 1) (upd H4 D (.lst (acc ++ [y]))) else Pv (i + 1) H3) (hd : ∀ H, Pv z.cps.size H → Qd H) :
    ∃ W : Nat → Nat → Hp → Prop, (∃ m, W 0 m (upd H1 D (.lst []))) ∧ ∀ i m H, W i m H →
      ((Its z).stop i H ∧ Qd H) ∨ ((Its z).go i H ∧ ∃ Nx : Hp → Prop, (∀ H', Nx H' → ∃ m', m' < m ∧ W (i + 1) m' H') ∧ ∀ x H', (Its z).yld i H x H' → g x (wipe σ vs) H' fun σ2 H2 => wipe σ2 vs = wipe σ vs ∧ tt σ2 H2 fun b H3 =>
        if b = true then te σ2 H3 fun y H4 => ∃ acc, H4 D = some (.lst acc) ∧ acc.length < sizeLine ∧ Nx (upd H4 D (.lst (acc ++ [y]))) else Nx H3) := by
  refine ⟨fun i m H => m = z.cps.size - i ∧ i ≤ z.cps.size ∧ Pv i H, ⟨z.cps.size, by simp, Nat.zero_le _, h0⟩, ?_⟩
  rintro i m H ⟨rfl, hi, p⟩
  by_cases hlt : i < z.cps.size
  · refine .inr ⟨hlt, Pv (i + 1), fun H' p' => ⟨z.cps.size - (i + 1), by omega, rfl, hlt, p'⟩, fun x H' y => ?_⟩
    obtain ⟨e, c, hc, rfl⟩ := y
    subst e
    exact hs i c _ hc p
  · have e : i = z.cps.size := by omega
    subst e
    exact .inl ⟨Nat.le_refl _, hd H p⟩
end Pw

set_option Elab.async false
set_option linter.all false
set_option maxRecDepth 100000
set_option maxHeartbeats 4000000
namespace Pw
open PySem PySem.Spec PyProof.Rows L2 TL
/-- what an answer other than NotImplemented is worth -/
theorem back_of {R : Value → Shared → Prop} {z : V} {v : Value} {s1 : Shared} (r : RelV z v) (h : R v s1) : PySem.W.CmpBack R v s1 := by
  cases z with
  | non =>
    obtain rfl : v = Value.none := r
    exact h
  | bl b =>
    obtain rfl : v = Value.bool b := r
    exact h
  | int i =>
    obtain ⟨t, rfl⟩ : ∃ t, v = Value.int i t := r
    exact h
  | str x =>
    obtain ⟨t, rfl⟩ : ∃ t, v = Value.str x t := r
    exact h
  | byt b =>
    obtain ⟨t, rfl⟩ : ∃ t, v = Value.bytes b t := r
    exact h
  | flt b =>
    obtain ⟨t, rfl⟩ : ∃ t, v = Value.float b t := r
    exact h
  | ref a =>
    obtain rfl : v = Value.ref a := r
    exact h
  | ty n =>
    obtain rfl : v = Value.type n := r
    exact h
/-- a def of a class's own, as an operator has it: run at any place A below the running body -/
structure OwnDef (X : Cx) (C : Addr) (name : Str) (n : Nat) (sp : Sp) : Prop where
  ex : ∃ f, PySem.W.findIn X.K (.ref C) name = some (some (.ref f)) ∧ PySem.W.isFn X.K (.ref f) = true ∧
    ∀ (A : Around) (pins : List (Addr × Obj)) (s : Shared) (σ : L2.St) (H : Hp) (vs : List V) (us : List Value) (Q : VK), Room n A → A.frames = X.A.frames → A.guards = X.A.guards → Inv X pins σ H s → Vals vs us → sp vs H Q (fun _ _ _ => False) →
      wpAny (model X.prog X.w) A (call (.ref f) us) (EP X pins σ Q) X.xe s
theorem env0_at {X : Cx} {A : Around} {pins : List (Addr × Obj)} {σ : L2.St} {H : Hp} {s : Shared} (I : Inv X pins σ H s) (hf : A.frames = X.A.frames) : Env0 X.prog X.w X.K X.mg X.base A X.stack s H := by
  have e := I.env0
  exact ⟨hf.trans e.frames, e.mod, e.bs, e.bsz, e.funs, e.frf, e.hok, e.bare⟩
theorem own_of {X : Cx} {C f : Addr} {name : Str} {n : Nat} {fd : FuncData} {ps : List Str} {sp : Sp} (F : FnOk X.prog X.w X.K X.mg X.base CX0 n f fd ps sp) (hs : PySem.W.findIn X.K (.ref C) name = some (some (.ref f))) (hf : PySem.W.isFn X.K (.ref f) = true) (hb : Binds X.K fd ps []) :
    OwnDef X C name n sp := by
  refine ⟨f, hs, hf, fun A pins s σ H vs us Q rm hfr _ I r h => ?_⟩
  have hl := F.len _ _ _ _ h
  have hu : us.length = ps.length := r.length.symm.trans hl
  have hbd : BindsTo s fd ⟨us, []⟩ (ps.zip us) := by
    have := hb s us I.kIn (by rw [List.append_nil]; exact hu)
    rw [List.append_nil] at this
    exact this
  refine wpAny_call (codeAny_mono (F.run A X.stack s H ⟨us, []⟩ us vs Q (fun _ _ _ => False) rm (env0_at I hfr) hbd r h) fun res s1 hq => ?_)
  cases res with
  | error e => exact False.elim hq
  | ok fl =>
    cases fl with
    | ret u => exact I.after hq
    | next => exact False.elim hq
    | brk => exact False.elim hq
    | cont => exact False.elim hq
/-- x == y, x an instance with its own __eq__, y anything of a type that is not below -/
def rOwnEq (K : PySem.W.Frag) (C : Addr) (sp : Sp) : R2 := fun x y H Q => ∃ a dx fs t, x = .ref a ∧ H a = some (.ins C dx fs) ∧ TyX K H y t ∧ PySem.W.notFirst K C t = true ∧ sp [x, y] H Q (fun _ _ _ => False)
theorem rich_own {X : Cx} {C : Addr} {n : Nat} {sp : Sp} (D : OwnDef X C "__eq__" n sp) {A : Around} (rm : Room n A) (hfr : A.frames = X.A.frames) (hgd : A.guards = X.A.guards) {pins : List (Addr × Obj)} {s : Shared} {σ : L2.St} {H : Hp} {x y : V} {v u : Value} {Q : VK} (I : Inv X pins σ H s) (rx : RelV x v) (ry : RelV y u) (h : rOwnEq X.K C sp x y H Q) :
    wpAny (model X.prog X.w) A (richCompare .Eq v u) (EP X pins σ Q) X.xe s := by
  obtain ⟨a, dx, fs, t, rfl, ha, ty, hn, q⟩ := h
  obtain rfl : v = Value.ref a := rx
  obtain ⟨f, hs, hf, run⟩ := D.ex
  obtain ⟨mA, J, _⟩ := ins_get I.hok ha
  obtain ⟨od, J, _⟩ := J.look
  obtain ⟨m, hF⟩ := I.fr
  obtain ⟨Pz, Kz, pz, _⟩ := kit_of I ry ty
  refine PySem.W.cmp_K (op := .Eq) (tb := t) rm.units0 hF I.ok.mod.kin J (Kz.ty _ _ I.kIn pz) hn hs hf ?_
  refine wpAny_mono (run A pins s σ H [.ref a, y] [.ref a, u] Q rm hfr hgd I (.cons rfl (.cons ry .nil)) q) (fun w s1 z => ?_) fun _ _ e => e
  obtain ⟨z1, H1, I1, r1, q1⟩ := z
  exact back_of r1 ⟨z1, H1, I1, r1, q1⟩
theorem op_eqOwn {X : Cx} {C : Addr} {n : Nat} {sp : Sp} (D : OwnDef X C "__eq__" n sp) (hr : Room n X.A) : OpR X (compareOp .Eq) (rOwnEq X.K C sp) := fun pins s σ H x y v u Q I rx ry h =>
  rich_own D hr rfl rfl I rx ry h
section
variable {prog : Program} {w : World} {A : Around} {E : Value → Shared → Prop} {s : Shared} {K : PySem.W.Frag} {x C f : Addr} {ox : Obj} {od : Option Obj}
/-- a special method that is a built-in's -/
theorem bound_blt {M : Model} {name : Str} {id : String} {args : List Value} {R : Option Value → Shared → Prop} (kin : K.In s.heap) (J : PySem.W.InstAt s.heap x ox C od) (hs : PySem.W.findIn K (.ref C) name = some (some (.builtin id)))
    (hb : ∀ z, bindSpecial (.builtin id) z = pure (.builtin id, [z])) (h : wpAny M A (call (.builtin id) (.ref x :: args)) (fun v => R (some v)) E s) : wpAny M A (callSpecialIfBound? (.ref x) name args) R E s := by
  have last : wpAny M A (call (.builtin id) ([.ref x] ++ args) >>= fun v => pure (some v)) R E s := wpAny_bind (wpAny_mono h (fun v s1 q => wpAny_pure q) fun _ _ q => q)
  simp only [bindSpecialIfBound?, callSpecialIfBound?]
  refine wpAny_holding (wpAny_bind (wpAny_bind (wpAny_bind (J.type.here ((PySem.W.looks_findIn kin hs).here (wpAny_bind (wpAny_askSetting (wpAny_ite ?_))))))))
  split
  · exact wpAny_bind ((PySem.W.Looks.of_pure (hb _)).here (wpAny_pure (by exact last)))
  · exact wpAny_tryCatch (wpAny_bind ((PySem.W.Looks.of_pure (hb _)).here (wpAny_pure (by exact last))))
/-- object.__ne__ of an instance whose __eq__ tells b -/
theorem obj_ne {b : Value} {R : Value → Shared → Prop} (hu : A.in1.units < cLine) (kin : K.In s.heap) (J : PySem.W.InstAt s.heap x ox C od) (hm : PySem.W.mroIn K C (.type "object") = some true) (hs : PySem.W.findIn K (.ref C) "__eq__" = some (some (.ref f))) (hf : PySem.W.isFn K (.ref f) = true)
    (h : wpAny (model prog w) A.in1 (call (.ref f) [.ref x, b]) (fun v s1 => ∃ c : Bool, v = .bool c ∧ R (.bool (!c)) s1) E s) : wpAny (model prog w) A (call (.builtin "object.__ne__") [.ref x, b]) R E s := by
  refine wpAny_call (codeAny_call_builtin PySem.F.slot_object_ne.plain PySem.F.cmpEntry_ne (PySem.W.check_slot (i := "object.__ne__") (owner := "object") (n := "__ne__") PySem.F.cmpKind_ne PySem.F.cmpSplit_ne (J.type.andThen (PySem.W.looks_mroIn kin hm)) (PySem.F.cmpArgs_ne _ _) ?_))
  unfold Builtin.«object.__ne__»
  refine wpAny_bind (m := slotArgs "__ne__" 1 _) (wpAny_pure (wpAny_bind (m := cRoomFor _ _) (wpAny_cRoomFor hu ?_)))
  refine wpAny_bind (m := callSpecialIfBound? (.ref x) (Str.ofString "__eq__") _) (PySem.W.ifBound_K kin J hs hf (wpAny_mono h (fun r s1 q => ?_) fun _ _ q => q))
  obtain ⟨c, rfl, q⟩ := q
  exact wpAny_bind (wpAny_truthy_bool (wpAny_pure q))
theorem rich_ne {b tb : Value} {R : Value → Shared → Prop} (hu : A.units < cLine) (hu1 : A.in1.units < cLine) (kin : K.In s.heap) (J : PySem.W.InstAt s.heap x ox C od) (hb : PySem.W.Looks (model prog w) s.heap (typeOf b) tb) (hn : PySem.W.notFirst K C tb = true) (hm : PySem.W.mroIn K C (.type "object") = some true)
    (hne : PySem.W.findIn K (.ref C) "__ne__" = some (some (.builtin "object.__ne__"))) (hs : PySem.W.findIn K (.ref C) "__eq__" = some (some (.ref f))) (hf : PySem.W.isFn K (.ref f) = true)
    (h : wpAny (model prog w) A.in1 (call (.ref f) [.ref x, b]) (fun v s1 => ∃ c : Bool, v = .bool c ∧ R (.bool (!c)) s1) E s) : wpAny (model prog w) A (richCompare .NotEq (.ref x) b) R E s := by
  have first : wpAny (model prog w) A (tryCompare (.ref x) (Str.ofString "__ne__") b) (fun r s1 => ∃ c : Bool, r = some (.bool c) ∧ R (.bool c) s1) E s := by
    unfold tryCompare
    refine wpAny_bind (bound_blt kin J hne PySem.F.slot_object_ne.bind (obj_ne hu1 kin J hm hs hf (wpAny_mono h (fun v s1 q => ?_) fun _ _ q => q)))
    obtain ⟨c, rfl, q⟩ := q
    exact ⟨c, rfl, wpAny_pure ⟨_, rfl, q⟩⟩
  unfold richCompare
  simp only [oneThing_ref]
  refine wpAny_holding (wpAny_bind (wpAny_cRoomFor hu (wpAny_bind (J.type.here (wpAny_bind (hb.here ?_))))))
  split
  · rename_i q
    have e : PySem.W.subIn K tb (.ref C) = some false := by
      rcases Bool.or_eq_true_iff.mp hn with z | z
      · have z2 := beq_iff_eq.mp z
        rw [z2] at q
        simp at q
      · exact beq_iff_eq.mp z
    refine wpAny_bind ((PySem.W.looks_subIn kin e).here ?_)
    simp only [Bool.false_eq_true, if_false]
    refine wpAny_bind (wpAny_mono first (fun r s1 z => ?_) fun _ _ z => z)
    obtain ⟨c, rfl, q⟩ := z
    exact wpAny_pure q
  · refine wpAny_bind (wpAny_pure ?_)
    simp only [Bool.false_eq_true, if_false]
    refine wpAny_bind (wpAny_mono first (fun r s1 z => ?_) fun _ _ z => z)
    obtain ⟨c, rfl, q⟩ := z
    exact wpAny_pure q
end
/-- x != y by the own __eq__ -/
def rOwnNe (K : PySem.W.Frag) (C : Addr) (sp : Sp) : R2 := fun x y H Q => ∃ a dx fs t, x = .ref a ∧ H a = some (.ins C dx fs) ∧ TyX K H y t ∧ PySem.W.notFirst K C t = true ∧ sp [x, y] H (fun v H1 => ∃ b, v = .bl b ∧ Q (.bl (!b)) H1) (fun _ _ _ => False)
theorem op_neOwn {X : Cx} {C : Addr} {n : Nat} {sp : Sp} (D : OwnDef X C "__eq__" n sp) (hr : Room (n + 1) X.A) (hm : PySem.W.mroIn X.K C (.type "object") = some true) (hne : PySem.W.findIn X.K (.ref C) "__ne__" = some (some (.builtin "object.__ne__"))) : OpR X (compareOp .NotEq) (rOwnNe X.K C sp) := by
  intro pins s σ H x y v u Q I rx ry h
  obtain ⟨a, dx, fs, t, rfl, ha, ty, hn, q⟩ := h
  obtain rfl : v = Value.ref a := rx
  obtain ⟨f, hs, hf, run⟩ := D.ex
  obtain ⟨mA, J, _⟩ := ins_get I.hok ha
  obtain ⟨od, J, _⟩ := J.look
  obtain ⟨Pz, Kz, pz, _⟩ := kit_of I ry ty
  have r1 : Room n X.A.in1 := Room.in1 hr
  show wpAny _ _ (richCompare .NotEq (.ref a) u) _ _ s
  refine rich_ne hr.units0 r1.units0 I.kIn J (Kz.ty _ _ I.kIn pz) hn hm hne hs hf ?_
  refine wpAny_mono (run X.A.in1 pins s σ H [.ref a, y] [.ref a, u] _ r1 rfl rfl I (.cons rfl (.cons ry .nil)) q) (fun w s1 z => ?_) fun _ _ e => e
  obtain ⟨z1, H1, I1, rz, b, rfl, q1⟩ := z
  obtain rfl : w = Value.bool b := rz
  exact ⟨b, rfl, .bl (!b), H1, I1, rfl, q1⟩
end Pw
namespace Pw
open PySem PySem.SeqAt
open AutoSeq1 (wpAny_loadPart')
open MeetsSeq MeetsSeq2 MeetsSeq3 SeqRoads2
section
variable {prog : Program} {w : World} {A : Around} {E : Value → Shared → Prop} {s : Shared}
/-- x in [y]: one comparison -/
theorem in_one {l : Addr} {y x : Value} {R : Value → Shared → Prop} (I : Shared → Prop) (hI : ∀ s1, I s1 → ∃ n dd sl items, s1.heap.get? l = some { cls := .type "list", dict := dd, data := .seq items n, slots := sl } ∧ items[0]? = some y ∧ items[1]? = none) (h0 : I s)
    (h : wpAny (model prog w) A.in1 (eqBool y x) (fun r s1 => I s1 ∧ R (.bool r) s1) E s) : wpAny (model prog w) A (compareOp .In x (.ref l)) R E s := by
  obtain ⟨n, dd, sl, items, hl, hy, _⟩ := hI s h0
  show wpAny _ A (do return .bool (← contains (.ref l) x)) R E s
  refine wpAny_bind (wpAny_contains_slot ⟨_, hl, rfl⟩ F.slot_list_contains (wpAny_mono (Q := fun v s1 => ∃ b, v = .bool b ∧ R (.bool b) s1) (GQ.call_here F.slot_list_contains ⟨_, hl, rfl⟩ F.entry_list_contains (F.args_list_contains_2 _ _) ?_) (fun v s1 q => ?_) fun _ _ z => z))
  · have last : ∀ s1, I s1 → R (.bool false) s1 → wpAny (model prog w) A.in1 (Builtin.«list.__contains__.loop» ⟨[.ref l, x, rawInt 1], []⟩) (GQ.FinOf prog w A (wants (fun v s1 => ∃ b, v = .bool b ∧ R (.bool b) s1) E)) (fun e s1 => wants (fun v s1 => ∃ b, v = .bool b ∧ R (.bool b) s1) E (.error e) s1) s1 := fun s1 i1 r1 => by
      obtain ⟨n1, dd1, sl1, items1, hl1, _, hy1⟩ := hI s1 i1
      obtain ⟨hp, g, d, tk, os⟩ := s1
      wp_walk using wpAny_loadPart' hl1
      rw [show items1[(1 : Int).toNat]? = none from hy1]
      wp_walk
      exact ⟨_, rfl, r1⟩
    have one : wpAny (model prog w) A.in1 (Builtin.«list.__contains__.loop» ⟨[.ref l, x, rawInt 0], []⟩) (GQ.FinOf prog w A (wants (fun v s1 => ∃ b, v = .bool b ∧ R (.bool b) s1) E)) (fun e s1 => wants (fun v s1 => ∃ b, v = .bool b ∧ R (.bool b) s1) E (.error e) s1) s := by
      obtain ⟨hp, g, d, tk, os⟩ := s
      wp_walk using wpAny_loadPart' hl
      rw [show items[(0 : Int).toNat]? = some y from hy]
      refine wpAny_bind (wpAny_mono h (fun r s1 q => ?_) fun _ _ z => z)
      cases r with
      | true =>
        obtain ⟨hp1, g1, d1, tk1, os1⟩ := s1
        wp_walk
        exact ⟨_, rfl, q.2⟩
      | false =>
        have z := last s1 q.1 q.2
        obtain ⟨hp1, g1, d1, tk1, os1⟩ := s1
        wp_walk
        exact ⟨plainId_quiet plain_contains_loop _, codeAny_builtin entry_contains_loop (by
          rw [Around.under_plainId plain_contains_loop _]
          exact z)⟩
    obtain ⟨hp, g, d, tk, os⟩ := s
    wp_walk
    exact ⟨plainId_quiet plain_contains_loop _, codeAny_builtin entry_contains_loop (by
      rw [Around.under_plainId plain_contains_loop _]
      exact one)⟩
  · obtain ⟨b, rfl, q⟩ := q
    exact wpAny_truthy_bool (wpAny_pure q)
end
end Pw
namespace Pw
open PySem PySem.Spec PyProof.Rows L2 TL
/-- x in [y], y an instance with its own __eq__ -/
def rOwnIn (K : PySem.W.Frag) (C : Addr) (sp : Sp) : R2 := fun x y H Q => ∃ l a dx fs b t, y = .ref l ∧ H l = some (.lst [.ref a]) ∧ H a = some (.ins C dx fs) ∧ x = .ref b ∧ a ≠ b ∧ TyX K H x t ∧ PySem.W.notFirst K C t = true ∧
  sp [.ref a, x] H (fun v H1 => ∃ r, v = .bl r ∧ H1 l = some (.lst [.ref a]) ∧ Q (.bl r) H1) (fun _ _ _ => False)
theorem op_inOwn {X : Cx} {C : Addr} {n : Nat} {sp : Sp} (D : OwnDef X C "__eq__" n sp) (hr : Room (n + 1) X.A) : OpR X (compareOp .In) (rOwnIn X.K C sp) := by
  intro pins s σ H x y v u Q I rx ry h
  obtain ⟨l, a, dx, fs, b, t, rfl, hl, ha, rfl, ne, ty, hn, q⟩ := h
  obtain rfl : v = Value.ref b := rx
  obtain rfl : u = Value.ref l := ry
  refine in_one (y := .ref a) (fun s1 => ∃ H1, Inv X pins σ H1 s1 ∧ H1 l = some (.lst [.ref a])) (fun s1 hs => ?_) ⟨H, I, hl⟩ (GQ.eqBool_refG ne ?_)
  · obtain ⟨H1, I1, h1⟩ := hs
    obtain ⟨its, rv, hL, _⟩ := I1.list (SqL.of h1)
    obtain ⟨o, m, e, hc, hd, hs2⟩ := hL
    have e2 : its = [Value.ref a] := by
      cases rv with
      | cons r1 r2 =>
        cases r2
        rw [show _ = Value.ref a from r1]
    subst e2
    obtain ⟨cls, dd, data, sl⟩ := o
    dsimp only at hc hd hs2
    subst hc
    subst hd
    subst hs2
    exact ⟨m, _, sl, _, e, rfl, rfl⟩
  · refine wpAny_mono (rich_own D (A := X.A.in1) (Room.in1 hr) rfl rfl I (x := .ref a) (y := .ref b) rfl rfl ⟨a, dx, fs, t, rfl, ha, ty, hn, q⟩) (fun w s1 z => ?_) fun _ _ e => e
    obtain ⟨z1, H1, I1, rz, r, rfl, h1, q1⟩ := z
    obtain rfl : w = Value.bool r := rz
    exact ⟨r, rfl, ⟨H1, I1, h1⟩, .bl r, H1, I1, rfl, q1⟩
end Pw

set_option Elab.async false
set_option linter.all false
set_option maxRecDepth 100000
set_option maxHeartbeats 4000000
namespace Pw
open PySem PySem.Spec PyProof.Rows L2 TL
/-- a list of texts as it is shown -/
def wordsText (ys : List Str) : Str := (PyData.list (ys.map PyData.str)).shown
def ShortT (ys : List Str) : Prop := ys.length ≤ 60 ∧ ∀ y ∈ ys, (tl y).length ≤ 1000 ∧ PyData.strOk y = true
theorem show_strs : ∀ ys : List Str, PyData.showableAll (ys.map PyData.str) = true
  | [] => rfl
  | y :: ys => by
    rw [List.map_cons]
    unfold PyData.showableAll
    rw [show_strs ys]
    rfl
theorem nodict_strs : ∀ ys : List Str, PyData.hasDictAll (ys.map PyData.str) = false
  | [] => by simp [PyData.hasDictAll]
  | y :: ys => by
    rw [List.map_cons]
    simp only [PyData.hasDictAll]
    rw [nodict_strs ys]
    simp [PyData.hasDict]
theorem depth_strs : ∀ ys : List Str, PyData.depthAll (ys.map PyData.str) ≤ 1
  | [] => by simp [PyData.depthAll]
  | y :: ys => by
    have := depth_strs ys
    rw [List.map_cons]
    simp only [PyData.depthAll, PyData.depth]
    omega
theorem words_len {ys : List Str} (h : ShortT ys) : (wordsText ys).length ≤ 700000 := by
  have e : wordsText ys = listText ((ys.map PyData.str).map PyData.shown) := by
    unfold wordsText
    simp only [PyData.shown]
    rw [shownAll_eq_map]
  rw [e]
  have h1 := listText_len_le ((ys.map PyData.str).map PyData.shown)
  have h2 : ∀ (zs : List Str), (∀ y ∈ zs, (tl y).length ≤ 1000 ∧ PyData.strOk y = true) → (((zs.map PyData.str).map PyData.shown).map (·.length)).sum ≤ zs.length * 10002 := by
    intro zs
    induction zs with
    | nil => intro _; exact Nat.zero_le _
    | cons z r ih =>
      intro hz
      have a1 := ih fun y hy => hz y (List.mem_cons_of_mem _ hy)
      obtain ⟨b1, b2⟩ := hz z List.mem_cons_self
      have a2 : (PyData.str z).shown.length ≤ 10002 := by
        rw [PyData.shown_str]
        have c1 := StrLaws.reprText_len z fun c hc => by
          unfold PyData.strOk at b2
          rw [Array.all_eq_true_iff_forall_mem] at b2
          have := b2 c (Array.mem_toList_iff.mp hc)
          simp at this
          omega
        rw [len_tl z] at c1
        omega
      rw [List.map_cons, List.map_cons, List.map_cons, List.sum_cons, List.length_cons]
      omega
  have h3 := h2 ys h.2
  have h4 := h.1
  rw [List.length_map, List.length_map] at h1
  omega
theorem words_dp {K : PySem.W.Frag} {H : Hp} : ∀ ys : List Str, DpAll K H (ys.map V.str) (ys.map PyData.str)
  | [] => .nil
  | y :: ys => .cons (.str y) (words_dp ys)
section
variable {X : Cx}
theorem words_reads {pins : List (Addr × Obj)} {σ : L2.St} {H : Hp} {s : Shared} {a : Addr} {ys : List Str} (I : Inv X pins σ H s) (h : SqL X.K H a (ys.map V.str)) : ∃ as, Reads s.heap (.ref a) (.list (ys.map PyData.str)) as :=
  Dp.reads I _ (.ref a) (.ref a) (.lst h (words_dp ys)) rfl
theorem words_room {hu : X.A.units + 64 < cLine} (ys : List Str) : X.A.units + ((PyData.list (ys.map PyData.str)).depth + 3) < cLine := by
  have := depth_strs ys
  simp only [PyData.depth]
  omega
/-- str(list of texts) -/
theorem cs_words (hg : X.A.guards = some []) (hu : X.A.units + 64 < cLine) : CallR X (.type "str") (fun xs H Q => ∃ (a : Addr) (ys : List Str), xs = [.ref a] ∧ SqL X.K H a (ys.map V.str) ∧ ShortT ys ∧ Q (.str (wordsText ys)) H) := by
  intro pins s σ H xs us Q I r h
  obtain ⟨a, ys, rfl, hs, hw, q⟩ := h
  rw [Vals.ref1 r]
  obtain ⟨as, rd⟩ := words_reads I hs
  exact str_of_reads rd (show_strs ys) (fun z => by rw [show PyData.hasDict (.list (ys.map PyData.str)) = PyData.hasDictAll (ys.map PyData.str) by simp [PyData.hasDict], nodict_strs ys] at z; cases z) hg (words_room (hu := hu) ys) (fun _ _ e => e)
    (fun h1 u tk hk => ⟨.str _, H, I.kept hk, ⟨_, rfl⟩, q⟩) (Nat.le_trans (words_len hw) (by decide))
/-- {list of texts!r} -/
def tFmtW (K : PySem.W.Frag) (te : TE) : TE := fun σ H Q => te σ H fun x H1 => ∃ (a : Addr) (ys : List Str), x = .ref a ∧ SqL K H1 a (ys.map V.str) ∧ ShortT ys ∧ Q (.str (wordsText ys)) H1
theorem pe_fmtW (hg : X.A.guards = some []) (hu : X.A.units + 64 < cLine) {e : Expr} {te : TE} {pos : Pos} (he : PE X e te) : PE X (.FormattedValue e 114 none pos) (tFmtW X.K te) := by
  refine ⟨fun pins s σ H Q I h => wpAny_FormattedValue_repr (thn (he.run pins s σ H _ I h) fun v s1 hv => ?_)⟩
  obtain ⟨x, H1, I1, r1, a, ys, rfl, hs, hw, q⟩ := hv
  obtain rfl : v = Value.ref a := r1
  obtain ⟨as, rd⟩ := words_reads I1 hs
  have hz : (wordsText ys).length ≤ sizeLine := Nat.le_trans (words_len hw) (by decide)
  have rm := words_room (hu := hu) ys
  exact pyReprObj_of_reads rd (show_strs ys) (fun z => by rw [show PyData.hasDict (.list (ys.map PyData.str)) = PyData.hasDictAll (ys.map PyData.str) by simp [PyData.hasDict], nodict_strs ys] at z; cases z) hg (by omega) (fun _ _ e => e)
    (fun h1 u tk hk => wpAny_formatField_str ⟨.str _, H1, I1.kept hk, ⟨_, rfl⟩, q⟩ ⟨.str _, H1, (I1.kept (t' := tk) hk).tok _, ⟨_, rfl⟩, q⟩ hz) hz
/-- a number or None as str tells it -/
def optText : Option Int → Str
  | none => "None"
  | some i => (toString i : String)
def tFmtO (te : TE) : TE := fun σ H Q => te σ H fun x H1 => ∃ o : Option Int, x = vO o ∧ (∀ i, o = some i → i.natAbs.log2 < 1920) ∧ Q (.str (optText o)) H1
theorem pe_fmtO {e : Expr} {te : TE} {pos : Pos} (he : PE X e te) : PE X (.FormattedValue e (-1) none pos) (tFmtO te) := by
  refine ⟨fun pins s σ H Q I h => wpAny_FormattedValue_plain (thn (he.run pins s σ H _ I h) fun v s1 hv => ?_)⟩
  obtain ⟨x, H1, I1, r1, o, rfl, ho, q⟩ := hv
  cases o with
  | none =>
    obtain rfl : v = Value.none := r1
    exact wpAny_formatField_none ⟨.str _, H1, I1.tok _, ⟨_, rfl⟩, q⟩
  | some i =>
    obtain ⟨t, rfl⟩ : ∃ t, v = Value.int i t := r1
    exact wpAny_formatField_int (ho i rfl) ⟨.str _, H1, I1.tok _, ⟨_, rfl⟩, q⟩
theorem cs_opt : CallR X (.type "str") (fun xs H Q => ∃ o : Option Int, xs = [vO o] ∧ (∀ i, o = some i → i.natAbs.log2 < 1920) ∧ Q (.str (optText o)) H) := by
  intro pins s σ H xs us Q I r h
  obtain ⟨o, rfl, ho, q⟩ := h
  obtain ⟨u, rfl, ru⟩ := r.one
  cases o with
  | none =>
    obtain rfl : u = Value.none := ru
    exact PySem.P.str_of_none ⟨.str _, H, I.tok _, ⟨_, rfl⟩, q⟩
  | some i =>
    obtain ⟨t, rfl⟩ : ∃ t, u = Value.int i t := ru
    exact PySem.P.str_of_int (ho i rfl) ⟨.str _, H, I.tok _, ⟨_, rfl⟩, q⟩
/-- str(x), repr(x) by own defs -/
def rShowOwn (C : Addr) (sp : Sp) : List V → Hp → VK → Prop := fun xs H Q => ∃ a dx fs, xs = [V.ref a] ∧ H a = some (.ins C dx fs) ∧ sp [.ref a] H (fun v H1 => ∃ y, v = .str y ∧ Q (.str y) H1) (fun _ _ _ => False)
theorem cs_own {C : Addr} {n : Nat} {sp : Sp} (D : OwnDef X C "__str__" n sp) (hr : Room (n + 2) X.A) : CallR X (.type "str") (rShowOwn C sp) := by
  intro pins s σ H xs us Q I r h
  obtain ⟨a, dx, fs, rfl, ha, q⟩ := h
  rw [Vals.ref1 r]
  obtain ⟨f, hs, hf, run⟩ := D.ex
  obtain ⟨mA, J, _⟩ := ins_get I.hok ha
  obtain ⟨od, J, _⟩ := J.look
  have r2 : Room n X.A.in1.in1 := (show Room (n + 1) X.A.in1 from Room.in1 hr).in1
  refine PySem.W.kso_call r2.units0 I.kIn J hs hf (wpAny_mono (run X.A.in1.in1 pins s σ H [.ref a] [.ref a] _ r2 rfl rfl I (.cons rfl .nil) q) (fun w s1 z => ?_) fun _ _ e => e)
  obtain ⟨z1, H1, I1, rz, y, rfl, q1⟩ := z
  obtain ⟨t, rfl⟩ : ∃ t, w = Value.str y t := rz
  exact ⟨.str y, H1, I1, ⟨t, rfl⟩, q1⟩
theorem cr_own {C : Addr} {n : Nat} {sp : Sp} (D : OwnDef X C "__repr__" n sp) (hr : Room (n + 1) X.A) : CallR X (.builtin "repr") (rShowOwn C sp) := by
  intro pins s σ H xs us Q I r h
  obtain ⟨a, dx, fs, rfl, ha, q⟩ := h
  rw [Vals.ref1 r]
  obtain ⟨f, hs, hf, run⟩ := D.ex
  obtain ⟨mA, J, _⟩ := ins_get I.hok ha
  obtain ⟨od, J, _⟩ := J.look
  obtain ⟨m, hF⟩ := I.fr
  have r1 : Room n X.A.in1 := Room.in1 hr
  refine PySem.W.repr_K r1.units0 hF I.ok.mod.kin J hs hf (wpAny_mono (run X.A.in1 pins s σ H [.ref a] [.ref a] _ r1 rfl rfl I (.cons rfl .nil) q) (fun w s1 z => ?_) fun _ _ e => e)
  obtain ⟨z1, H1, I1, rz, y, rfl, q1⟩ := z
  obtain ⟨t, rfl⟩ : ∃ t, w = Value.str y t := rz
  exact ⟨.str y, H1, I1, ⟨t, rfl⟩, q1⟩
end
end Pw

set_option Elab.async false
set_option linter.all false
set_option maxRecDepth 100000
set_option maxHeartbeats 4000000
namespace Pw
open PySem PySem.Spec PyProof.Rows L2 TL
/-- as FnOk, where no repr is under way -/
structure FnG (P : Program) (w : World) (K : PySem.W.Frag) (mg : Str → Option Value) (base : Heap) (k : Nat) (f : Addr) (fd : FuncData) (ps : List Str) (sp : Sp) : Prop where
  len : ∀ vs H Q E, sp vs H Q E → vs.length = ps.length
  run : ∀ (A : Around) (out : List Env) (s : Shared) (H : Hp) (us : List Value) (vs : List V) (Q : VK) (E : XK), A.guards = some [] → Room k A → Env0 P w K mg base A out s H → BindsTo s fd ⟨us, []⟩ (ps.zip us) → Vals vs us → sp vs H Q E →
    codeAny (model P w) A (.call (.ref f) ⟨us, []⟩) (CR CX0 out P w H s Q E) s
section
variable {P : Program} {w : World} {K : PySem.W.Frag} {mg : Str → Option Value} {base : Heap}
theorem fnG_of {k : Nat} {f : Addr} {x q : Str} {st : Stmt} {fd : FuncData} {N ps : List Str} {sp : Sp} (F : Fun K x q st f fd) (S : FnScope N ps (defScope st)) (len : ∀ vs H Q E, sp vs H Q E → vs.length = ps.length)
    (body : ∀ (cdv : Value) (A : Around) (out : List Env) (s : Shared) (H : Hp) (vs : List V) (Q : VK) (E : XK), A.guards = some [] → Room k (A.deeper (envOfC q (defScope st) s.heap.objs.size f cdv)) → sp vs H Q E →
      ∃ t, PSs (cxOf CX0 P w K mg base N q (defScope st) f cdv A out s H E).nox (defBody st) t ∧ t { nx := fun _ H1 => Q .non H1, rt := Q } (L2.start N vs) H) : FnG P w K mg base (k + 1) f fd ps sp := by
  obtain ⟨oc, od, kV, doc, pm, an, cdv, ct, osl, rfl, lk, hcd⟩ := F.ex
  refine ⟨len, fun A out s H us vs Q E gd rm ev bd rl hs => ?_⟩
  have kin : K.In s.heap := ev.mod.kin.keeps fun b o z => (ev.bs b o z).1
  have nol : s.heap.NoLimit := ev.mod.nolimit.keeps fun b o z => (ev.bs b o z).1
  have kinds : ∀ y ∈ ps.zip us, (defScope st).names.lookup y.1 = some .local ∨ ((defScope st).names.lookup y.1 = some .cell ∧ ((cellsFrom (s.heap.objs.size + 1) (defScope st).names []).lookup y.1).isSome = true) := by
    rintro ⟨n, v⟩ hy
    rcases S.par n (List.of_mem_zip hy).1 with z | z
    · exact .inl z
    · exact .inr ⟨z, PySem.W.cellsFrom_some _ _ _ (.inl z)⟩
  refine codeAny_call_function rm.depth (kin _ _ lk) rfl S.co S.gen rfl (PySem.W.codeRec_of kin hcd) (bd _ _ _ _ (wpAny_newFunctionEnv_cells S.kind kinds fun env he s1 x1 => ?_))
  subst he
  refine ⟨nol.keeps x1.toInCall.keep, codeAny_func ?_⟩
  obtain ⟨t, ht, hq⟩ := body cdv A out s H vs Q E gd (rm.deeper _) hs
  have J0 : Inv (cxOf CX0 P w K mg base N q (defScope st) f cdv A out s H E) [] (L2.start N vs) H s1 := inv_start S rm.hd ev (len _ _ _ _ hs) rl x1
  refine wpAny_mono (ht.nox.run [] s1 (L2.start N vs) H _ J0 hq) (fun fl s2 h2 => ?_) fun e s2 h2 => h2
  have done : ∀ {σ2 : L2.St} {H2 : Hp} {v : V} {u : Value}, Inv (cxOf CX0 P w K mg base N q (defScope st) f cdv A out s H E) [] σ2 H2 s2 → RelV v u → Q v H2 → CE out P w H s Q u s2 := fun {σ2 H2 v u} J rv z => ⟨v, H2, J.os, J.bare, J.base, J.hok, rv, z⟩
  cases fl with
  | next =>
    obtain ⟨σ2, H2, J, z⟩ := h2
    exact done (v := V.non) (u := Value.none) J rfl z
  | ret u =>
    obtain ⟨v, σ2, H2, J, rv, z⟩ := h2
    exact done J rv z
  | brk =>
    obtain ⟨_, _, _, z⟩ := h2
    exact z.elim
  | cont =>
    obtain ⟨_, _, _, z⟩ := h2
    exact z.elim
/-- such a def as an operator has it -/
theorem own_ofG {X : Cx} {C f : Addr} {name : Str} {n : Nat} {fd : FuncData} {ps : List Str} {sp : Sp} (hg : X.A.guards = some []) (F : FnG X.prog X.w X.K X.mg X.base n f fd ps sp) (hs : PySem.W.findIn X.K (.ref C) name = some (some (.ref f))) (hf : PySem.W.isFn X.K (.ref f) = true) (hb : Binds X.K fd ps []) :
    OwnDef X C name n sp := by
  refine ⟨f, hs, hf, fun A pins s σ H vs us Q rm hfr hgd I r h => ?_⟩
  have hu : us.length = ps.length := r.length.symm.trans (F.len _ _ _ _ h)
  have hbd : BindsTo s fd ⟨us, []⟩ (ps.zip us) := by
    have := hb s us I.kIn (by rw [List.append_nil]; exact hu)
    rw [List.append_nil] at this
    exact this
  refine wpAny_call (codeAny_mono (F.run A X.stack s H us vs Q (fun _ _ _ => False) (hgd.trans hg) rm (env0_at I hfr) hbd r h) fun res s1 hq => ?_)
  cases res with
  | error e => exact False.elim hq
  | ok fl =>
    cases fl with
    | ret u => exact I.after hq
    | next => exact False.elim hq
    | brk => exact False.elim hq
    | cont => exact False.elim hq
end
/-- the law's call: nothing is under way there -/
theorem lawG {P : Program} {w : World} {K : PySem.W.Frag} {mg mb : Str → Option Value} {k : Nat} {fa a : Addr} {fd : FuncData} {x : Str} {sp : Sp} {s0 : Shared} {vs : List Value} {ns : List Int}
    (kin : K.In s0.heap) (gns : s0.heap.Ns mainGlobals mg) (bns : s0.heap.Ns builtinsNs mb) (boot : ∀ x : Str, x ≠ "__name__" → mb x = bootBuiltins x) (nol : s0.heap.NoLimit) (hg : s0.gens = #[])
    (ha : s0.heap.get? a = some { cls := .type "list", data := .seq vs.toArray }) (hi : IntsAre vs ns) (hl : ns.length ≤ sizeLine) (hr : Room k callerA)
    (F : ∀ base : Heap, K.In base → base.Ns mainGlobals mg → FnG P w K mg base k fa fd [x] sp) (hbind : ∀ (s : Shared) (u : Value), BindsTo s fd ⟨[u], []⟩ [(x, u)])
    (hsp : ∀ H : Hp, SqL K H a (ns.map V.int) → sp [.ref a] H (fun v _ => v = .bl true) fun _ _ _ => False) :
    codeAny (model P w) callerA (.call (.ref fa) ⟨[.ref a], []⟩) (fun r s1 => r = .ok (.ret (.bool true)) ∧ OldK s0.heap s1.heap ∧ s1.os = s0.os ∧ AllBare s1.gens) s0 := by
  have main : ∀ H : Hp, (∀ b, H b = none ∨ ∃ o xs, H b = some (.frz o (.lst xs))) → SqL K H a (ns.map V.int) → HOk P w H s0.heap → (∀ b, H b ≠ none → b = a) → (H a ≠ none → K.lookup a = none) →
      codeAny (model P w) callerA (.call (.ref fa) ⟨[.ref a], []⟩) (fun r s1 => r = .ok (.ret (.bool true)) ∧ OldK s0.heap s1.heap ∧ s1.os = s0.os ∧ AllBare s1.gens) s0 := by
    intro H frz sq hok only ka
    have nodict : ∀ {b : Addr} {o : Obj} {es : Array DictEntry} {ep : Nat}, s0.heap.get? b = some o → o.data = .dict es ep → H b = none := by
      intro b o es ep z d
      cases q : H b with
      | none => rfl
      | some u =>
        obtain rfl : b = a := only b (by rw [q]; exact Option.some_ne_none u)
        rw [ha] at z
        cases z
        cases (show Data.seq vs.toArray _ = Data.dict es ep from d)
    have ns1 : ∀ {b : Addr} {m : Str → Option Value}, s0.heap.Ns b m → (hidT s0.heap H).Ns b m := fun {b m} ⟨o, es, ep, z, d, r⟩ => ⟨o, es, ep, hidT_get z (nodict z d), d, r⟩
    have kin1 : K.In (hidT s0.heap H) := by
      intro b o z
      refine hidT_get (kin b o z) ?_
      cases q : H b with
      | none => rfl
      | some u =>
        obtain rfl : b = a := only b (by rw [q]; exact Option.some_ne_none u)
        rw [ka (by rw [q]; exact Option.some_ne_none u)] at z
        cases z
    have md : Mod K mg (hidT s0.heap H) := by
      obtain ⟨mc, n1, n2⟩ := nol
      exact ⟨kin1, ns1 gns, ⟨mb, ns1 bns, boot⟩, ⟨mc, ns1 n1, n2⟩⟩
    have ev : Env0 P w K mg (hidT s0.heap H) callerA [] s0 H := ⟨rfl, md, fun b o z => of_hidT z, Nat.le_of_eq (hidT_size _ _), trivial, (fun b hb => nomatch (show b ∈ ([] : List Addr) from hb)), hok, .of_eq hg⟩
    refine codeAny_mono ((F _ kin1 (ns1 gns)).run callerA [] s0 H [.ref a] [.ref a] (fun v _ => v = .bl true) (fun _ _ _ => False) rfl hr ev (hbind s0 (.ref a)) (.cons rfl .nil) (hsp H sq)) fun r s1 h => ?_
    cases r with
    | error e => exact False.elim h
    | ok fl =>
      cases fl with
      | next => exact h.elim
      | brk => exact h.elim
      | cont => exact h.elim
      | ret u =>
        obtain ⟨v, H1, os, bare, un, hok1, r1, q1⟩ := h
        obtain rfl : v = V.bl true := q1
        obtain rfl : u = Value.bool true := r1
        refine ⟨rfl, OldK.of_keep fun b o z => ?_, os, bare⟩
        rcases frz b with n | ⟨ob, xs, n⟩
        · exact un.keep b o z n (fun y => nomatch (show b ∈ ([] : List Addr) from y)) (by simp)
        · obtain ⟨z1, _⟩ := hok b _ n
          obtain ⟨z2, _⟩ := hok1 b _ (un.frzs b ob _ n)
          rw [z] at z1
          cases z1
          exact z2
  have hlen := hi.length
  have hv := vals_ints hi
  cases hk : K.lookup a with
  | some o =>
    have z := kin a o hk
    rw [ha] at z
    cases z
    refine main (fun _ => none) (fun _ => .inl rfl) (.inr ⟨_, vs.toArray, _, hk, rfl, rfl, rfl, ?_, by simpa using hv⟩) (fun b u z => nomatch (show (none : Option HO) = some u from z)) (fun b z => (z rfl).elim) (fun z => (z rfl).elim)
    rw [List.size_toArray, hlen]
    exact hl
  | none =>
    refine main (fun b => if b = a then some (.frz { cls := .type "list", data := .seq vs.toArray } (.lst (ns.map V.int))) else none) (fun b => ?_) (.inl (.inr ⟨_, if_pos rfl⟩)) (fun b u z => ?_) (fun b z => ?_) (fun _ => hk)
    · rcases Classical.em (b = a) with e | e
      · exact .inr ⟨_, _, if_pos e⟩
      · exact .inl (if_neg e)
    · rcases Classical.em (b = a) with e | e
      · cases (if_pos e).symm.trans z
        subst e
        exact ⟨ha, by rw [List.length_map]; exact hl, vs, _, hv, ha⟩
      · cases (if_neg e).symm.trans z
    · rcases Classical.em (b = a) with e | e
      · exact e
      · exact (z (if_neg e)).elim
theorem walkG {l : PySem.W.OpenLaw} {n k : Nat} {q : Program} {loose : List Str} {XP : (Str → Option Value) → Heap → Prop} {YP : World → Heap → Prop} {d : DefRec} {K : Params → PySem.W.Frag} {sp : PySem.W.Frag → Sp} {x : Str}
    (hn : l.most = some n) (hn2 : n ≤ sizeLine) (hdf : d.params.defaults = []) (hr : Room k callerA) (hY : ∀ (w : World) (h : Heap), YP w h → (K w.params).In h)
    (F : ∀ (w : World) (mg : Str → Option Value) (fa : Addr) (h : Heap), (K w.params).In h → h.Ns mainGlobals mg → mg d.name = some (.ref fa) →
      ∃ fd : FuncData, (∀ (s : Shared) (u : Value), BindsTo s fd ⟨[u], []⟩ [(x, u)]) ∧ ∀ base : Heap, (K w.params).In base → base.Ns mainGlobals mg → FnG l.prog w (K w.params) mg base k fa fd [x] (sp (K w.params)))
    (hsp : ∀ (w : World) (H : Hp) (a : Addr) (ns : List Int), SqL (K w.params) H a (ns.map V.int) → sp (K w.params) [.ref a] H (fun v _ => v = .bl true) fun _ _ _ => False) :
    PySem.W.WalkO q loose XP YP l.row.toRowW d [] (fun f vs => PySem.call f vs) := by
  refine Att.attach_call hn hdf fun w s1 s0 mg mb fa o pm cd doc a vs ns G Y ho hd hcd hmg hobj hints hlen hg => ?_
  obtain ⟨fd, hb, hF⟩ := F w mg fa _ (hY w _ Y) G.T.g hmg
  exact lawG (hY w _ Y) G.T.g G.T.b G.T.builtins G.T.nolimit hg hobj hints (Nat.le_trans hlen hn2) hr hF hb fun H sq => hsp w H a ns sq
end Pw

set_option Elab.async false
set_option linter.all false
set_option maxRecDepth 100000
set_option maxHeartbeats 4000000
namespace K04
open PySem PySem.Spec PyProof.Rows L2 Pw TL
def topS (i : Nat) : Stmt := PySem.Challenge.pw_pulsewright_k04_rules_as_objects.main.body.getD i (.Pass ⟨0, 0, 0, 0⟩)
section
variable {P : Program} {w : World} {K : PySem.W.Frag} {mg : Str → Option Value} {base : Heap}
theorem same_new {H : Hp} {p : Addr} {o : HO} (h : H p = none) : Same H (upd H p o) := fun b x e => by
  rw [upd_ne (ne_of_none e h)]
  exact e
/-! first_stranger -/
abbrev sFS : Stmt := topS 5
theorem scFS : FnScope ["text", "at", "sign"] ["text"] (defScope sFS) := ⟨rfl, rfl, rfl, by decide +kernel, rfl, by decide +kernel, by decide +kernel⟩
def vOpt : Option Nat → V
  | none => .non
  | some i => .int (i : Nat)
def spFS : Sp := fun vs H Q _ => ∃ x : Str, vs = [.str x] ∧ ∀ H', Same H H' → Q (vOpt (strange (tl x))) H'
theorem one_sign (c : Nat) : (V.str ⟨#[c]⟩ = V.str "0" ↔ c = 48) ∧ (V.str ⟨#[c]⟩ = V.str "1" ↔ c = 49) := by
  constructor
  · constructor
    · intro h
      have h1 : (⟨#[c]⟩ : Str) = "0" := V.str.inj h
      have h2 : [c] = [48] := congrArg tl h1
      exact (List.cons.inj h2).1
    · intro h
      subst h
      rfl
  · constructor
    · intro h
      have h1 : (⟨#[c]⟩ : Str) = "1" := V.str.inj h
      have h2 : [c] = [49] := congrArg tl h1
      exact (List.cons.inj h2).1
    · intro h
      subst h
      rfl
theorem ok_fs {f : Addr} {fd : FuncData} {k : Nat} (F : Fun K "first_stranger" "first_stranger" sFS f fd) (me : mg "enumerate" = none) : FnOk P w K mg base CX0 (k + 1) f fd ["text"] spFS := by
  refine F.ok scFS (fun vs H Q E h => ?_) (fun cdv A outer s H vs Q E hr h => ?_)
  · obtain ⟨x, rfl, _⟩ := h
    rfl
  · obtain ⟨x, rfl, q⟩ := h
    refine ⟨_, pss_cons (ps_for PassesOwn.never rfl (pi_enumS (by rfl) me (pa_cons (pv 0) pa_nil)) (pg_tup rfl (pgs_cons (pg_name (i := 1) scFS.nd rfl (.inl rfl)) (pgs_cons (pg_name (i := 2) scFS.nd rfl (.inl rfl)) pgs_nil)))
        (pss_one (ps_if (PW.pt (pw_and (pt_cmpR op_ne (pv 2) pe_str (nomark _)) (pw_and1 (pt_cmpR op_ne (pv 2) pe_str (nomark _))))) (pss_one (ps_ret (pv 1))) pss_nil)))
      (pss_one (ps_ret pe_non)), ?_⟩
    refine ⟨.str x, rfl, x, rfl, for_enumS (x := x) (fun i σ H1 => (∃ y1 y2, σ = [some (.str x), y1, y2]) ∧ Pure ((tl x).take i) ∧ Same H H1) ⟨⟨none, none, rfl⟩, fun c hc => by simp at hc, Same.refl H⟩ ?_ ?_⟩
    · rintro i c σ H1 T hc ⟨⟨y1, y2, rfl⟩, hp, sm⟩ nT
      have hc' : (tl x)[i]? = some c := by rw [← hc]; exact Array.getElem?_toList
      have sT : Same H (upd H1 T (.tup [.int (i : Nat), .str ⟨#[c]⟩])) := sm.trans (same_new nT)
      refine ⟨T, _, rfl, .inl (.inl upd_same), rfl, _, _, rfl, _, _, rfl, rfl, ?_⟩
      refine ⟨_, rfl, rfl, _, rfl, ?_⟩
      by_cases h0 : c = 48
      · rw [decide_eq_true ((one_sign c).1.mpr h0)]
        refine iteF (iteF ⟨⟨_, _, rfl⟩, pure_more hc' hp (by simp [bad, h0]), sT⟩)
      · rw [decide_eq_false (fun z => h0 ((one_sign c).1.mp z))]
        refine iteT ⟨_, rfl, rfl, _, rfl, ?_⟩
        by_cases h1 : c = 49
        · rw [decide_eq_true ((one_sign c).2.mpr h1)]
          exact iteF ⟨⟨_, _, rfl⟩, pure_more hc' hp (by simp [bad, h1]), sT⟩
        · rw [decide_eq_false (fun z => h1 ((one_sign c).2.mp z))]
          refine iteT ⟨_, rfl, ?_⟩
          have e := strange_take hc' hp (by simp [bad, h0, h1])
          have := q _ sT
          rw [e] at this
          exact this
    · rintro σ H1 ⟨⟨y1, y2, rfl⟩, hp, sm⟩
      have hl : (tl x).take x.cps.size = tl x := List.take_of_length_le (by simp)
      rw [hl] at hp
      have := q H1 sm
      rw [strange_none hp] at this
      exact this
end
end K04

set_option Elab.async false
set_option linter.all false
set_option maxRecDepth 100000
set_option maxHeartbeats 4000000
namespace K04
open PySem PySem.Spec PyProof.Rows L2 Pw TL
section
variable {P : Program} {w : World} {K : PySem.W.Frag} {mg : Str → Option Value} {base : Heap}
/-- a module's number -/
def Num (mg : Str → Option Value) (x : Str) (n : Int) : Prop := ∃ u, mg x = some u ∧ RelV (.int n) u
theorem same_put {H H1 : Hp} {p : Addr} {o : HO} (s : Same H H1) (n : H p = none) : Same H (upd H1 p o) := fun b x e => by
  rw [upd_ne (ne_of_none e n)]
  exact s b x e
/-! is_word -/
abbrev sIW : Stmt := topS 12
theorem scIW : FnScope ["text"] ["text"] (defScope sIW) := ⟨rfl, rfl, rfl, by decide +kernel, rfl, by decide +kernel, by decide +kernel⟩
def wordB (x : Str) : Bool := decide (1 ≤ (tl x).length ∧ (tl x).length ≤ 5) && (strange (tl x)).isNone
def spIW : Sp := fun vs H Q _ => ∃ x : Str, vs = [.str x] ∧ (tl x).length ≤ 1000 ∧ ∀ H', Same H H' → Q (.bl (wordB x)) H'
theorem vOpt_non (o : Option Nat) : decide (vOpt o = .non) = o.isNone := by
  cases o with
  | none => rfl
  | some i => rfl
theorem ok_iw {f fFS : Addr} {fd fdFS : FuncData} (F : Fun K "is_word" "is_word" sIW f fd) (G : FnOk P w K mg base CX0 1 fFS fdFS ["text"] spFS) (gm : mg "first_stranger" = some (.ref fFS)) (gk : PySem.W.keepIn K (.ref fFS) = true) (gb : Binds K fdFS ["text"] [])
    (ml : mg "len" = none) (N5 : Num mg "LONGEST_WORD" 5) : FnOk P w K mg base CX0 2 f fd ["text"] spIW := by
  obtain ⟨u5, m5, r5⟩ := N5
  refine F.ok scIW (fun vs H Q E h => ?_) (fun cdv A outer s H vs Q E hr h => ?_)
  · obtain ⟨x, rfl, _⟩ := h
    rfl
  · obtain ⟨x, rfl, hl, q⟩ := h
    have hz : x.length ≤ sizeLine := by
      rw [len_tl]
      exact Nat.le_of_lt (small1000 hl)
    refine ⟨_, pss_one (ps_ret (pe_and (pe_chain op_le op_le pe_int (pe_callB call_len_str (by rfl) ml PySem.boot_len (pa_cons (pv 0) pa_nil)) (pe_glob rfl m5 r5))
      (pe_one (pe_cmpR op_isN (pe_call G hr rfl gm gk gb .nil pass0 (pa_cons (pv 0) pa_nil)) pe_non (nomark _))))), ?_⟩
    refine ⟨_, rfl, x, rfl, hz, _, _, rfl, rfl, _, rfl, ?_⟩
    by_cases h1 : (1 : Int) ≤ (x.length : Nat)
    · rw [decide_eq_true h1]
      refine iteT ⟨_, _, rfl, rfl, _, rfl, ?_⟩
      by_cases h5 : ((x.length : Nat) : Int) ≤ 5
      · rw [decide_eq_true h5]
        refine iteT ⟨_, rfl, x, rfl, fun H1 s1 => ⟨rfl, ?_⟩⟩
        have := q H1 s1
        have e : wordB x = (strange (tl x)).isNone := by
          unfold wordB
          rw [decide_eq_true (show 1 ≤ (tl x).length ∧ (tl x).length ≤ 5 by rw [← len_tl]; omega), Bool.true_and]
        rw [e] at this
        rw [vOpt_non]
        exact this
      · rw [decide_eq_false h5]
        refine iteF ?_
        have := q H (Same.refl H)
        have e : wordB x = false := by
          unfold wordB
          rw [decide_eq_false (show ¬ (1 ≤ (tl x).length ∧ (tl x).length ≤ 5) by rw [← len_tl]; omega), Bool.false_and]
        rw [e] at this
        exact this
    · rw [decide_eq_false h1]
      refine iteF ⟨_, rfl, iteF ?_⟩
      have := q H (Same.refl H)
      have e : wordB x = false := by
        unfold wordB
        rw [decide_eq_false (show ¬ (1 ≤ (tl x).length ∧ (tl x).length ≤ 5) by rw [← len_tl]; omega), Bool.false_and]
      rw [e] at this
      exact this
/-! are_words -/
abbrev sAW : Stmt := topS 13
theorem scAW : FnScope ["texts", "text"] ["texts"] (defScope sAW) := ⟨rfl, rfl, rfl, by decide +kernel, rfl, by decide +kernel, by decide +kernel⟩
def wordsB (xs : List Str) : Bool := decide (xs.length ≤ 6) && decide (cntD xs = xs.length) && xs.all wordB
def spAW : Sp := fun vs H Q _ => ∃ (l : Addr) (xs : List Str), vs = [.ref l] ∧ H l = some (.lst (xs.map V.str)) ∧ xs.length ≤ 60 ∧ (∀ x ∈ xs, (tl x).length ≤ 1000) ∧ ∀ H', Same H H' → Q (.bl (wordsB xs)) H'
theorem ok_aw {f fIW : Addr} {fd fdIW : FuncData} (F : Fun K "are_words" "are_words" sAW f fd) (G : FnOk P w K mg base CX0 2 fIW fdIW ["text"] spIW) (gm : mg "is_word" = some (.ref fIW)) (gk : PySem.W.keepIn K (.ref fIW) = true) (gb : Binds K fdIW ["text"] [])
    (ml : mg "len" = none) (ms : mg "set" = none) (ma : mg "all" = none) (N6 : Num mg "MOST_WORDS" 6) : FnOk P w K mg base CX0 3 f fd ["texts"] spAW := by
  obtain ⟨u6, m6, r6⟩ := N6
  refine F.ok scAW (fun vs H Q E h => ?_) (fun cdv A outer s H vs Q E hr h => ?_)
  · obtain ⟨l, xs, rfl, _⟩ := h
    rfl
  · obtain ⟨l, xs, rfl, hl, h60, hx, q⟩ := h
    refine ⟨_, pss_cons (ps_if (PW.pt (pw_or (pt_cmpR op_gt (pe_callB call_len_seq (by rfl) ml PySem.boot_len (pa_cons (pv 0) pa_nil)) (pe_glob rfl m6 r6) (nomark _)) (pw_or1 (pt_cmpR op_lt (pe_lenD rfl (by rfl) ml (by rfl) ms (pv 0)) (pe_callB call_len_seq (by rfl) ml PySem.boot_len (pa_cons (pv 0) pa_nil)) (nomark _))))) (pss_one (ps_ret pe_bl)) pss_nil)
      (pss_one (ps_ret (pe_callB (cr_all rfl) (by rfl) ma (by decide +kernel) (pa_cons (pe_lc (own := [("text", 1)]) (g := gName 1) (tt := tYes) rfl scAW.nd (pi_list (pv 0))
        (blkOk_by (N := ["texts", "text"]) (sc := defScope sAW) (by decide +kernel)) (fun _ _ _ _ _ => pg_name (i := 1) scAW.nd rfl (Or.inl rfl)) (fun _ _ _ _ _ => pts_nil)
        (fun _ _ _ _ _ => pe_call G hr rfl gm gk gb .nil pass0 (pa_cons (pv 1) pa_nil))) pa_nil)))), ?_⟩
    have sq : SqL K H l (xs.map V.str) := SqL.of hl
    have hlen : (xs.map V.str).length = xs.length := List.length_map ..
    have hcl := cntD_le xs
    refine ⟨_, rfl, l, _, rfl, .inl sq, _, _, rfl, rfl, _, rfl, ?_⟩
    rw [hlen]
    by_cases h6 : (6 : Int) < (xs.length : Nat)
    · rw [decide_eq_true h6]
      refine iteT (iteT ?_)
      have := q H (Same.refl H)
      have e : wordsB xs = false := by
        unfold wordsB
        rw [decide_eq_false (by omega), Bool.false_and, Bool.false_and]
      rw [e] at this
      exact this
    · rw [decide_eq_false h6]
      refine iteF ⟨_, rfl, l, xs, rfl, .inl sq, h60, _, rfl, l, _, rfl, .inl sq, _, _, rfl, rfl, _, rfl, ?_⟩
      rw [hlen]
      by_cases hd : ((cntD xs : Nat) : Int) < (xs.length : Nat)
      · rw [decide_eq_true hd]
        refine iteT ?_
        have := q H (Same.refl H)
        have e : wordsB xs = false := by
          unfold wordsB
          rw [decide_eq_false (p := cntD xs = xs.length) (by omega), Bool.and_false, Bool.false_and]
        rw [e] at this
        exact this
      · rw [decide_eq_false hd]
        refine iteF ?_
        have e : wordsB xs = xs.all wordB := by
          unfold wordsB
          rw [decide_eq_true (p := xs.length ≤ 6) (by omega), decide_eq_true (p := cntD xs = xs.length) (by omega), Bool.true_and, Bool.true_and]
        refine ⟨_, rfl, l, rfl, ⟨_, sq⟩, fun D nD => ?_⟩
        have eD : l ≠ D := ne_of_none hl nD
        refine lc_list (K := K) (a := l) (xs := xs.map V.str) (fun i H2 => Same H H2 ∧ H2 D = some (.lst (((xs.map wordB).take i).map V.bl)))
          ⟨same_new nD, upd_same⟩ (fun i H2 _ h => SqL.of (h.1 _ _ hl)) (fun i v H2 hv h => ?_) (fun H2 h => ?_)
        · obtain ⟨s2, h3⟩ := h
          rw [List.getElem?_map] at hv
          cases hz : xs[i]? with
          | none =>
            rw [hz] at hv
            cases hv
          | some z =>
            rw [hz] at hv
            obtain rfl : V.str z = v := Option.some.inj hv
            have hg : (xs.map wordB)[i]? = some (wordB z) := by
              rw [List.getElem?_map, hz]
              rfl
            refine ⟨rfl, _, rfl, z, rfl, hx z (List.mem_of_getElem? hz), fun H3 s3 => ⟨_, s3 _ _ h3, ?_, ?_, ?_⟩⟩
            · rw [List.length_map, List.length_take, List.length_map]
              exact Nat.lt_of_le_of_lt (Nat.min_le_right _ _) (small1000 (by omega))
            · exact same_put (s2.trans s3) nD
            · rw [upd_same, List.take_add_one, hg, List.map_append]
              rfl
        · obtain ⟨s2, h3⟩ := h
          rw [hlen, ← List.length_map (f := wordB), List.take_length] at h3
          refine ⟨D, xs.map wordB, rfl, SqL.of h3, ?_⟩
          have := q H2 s2
          rw [e] at this
          rw [List.all_map]
          exact this
end
section
variable {P : Program} {w : World} {K : PySem.W.Frag} {mg : Str → Option Value} {base : Heap}
/-! check_parts -/
abbrev sCP : Stmt := topS 14
theorem scCP : FnScope ["words", "low", "high", "span"] ["words", "low", "high", "span"] (defScope sCP) := ⟨rfl, rfl, rfl, by decide +kernel, rfl, by decide +kernel, by decide +kernel⟩
def vI : Option Int → V
  | none => .non
  | some i => .int i
def okStr : V → Prop := fun v => ∃ s : Str, v = .str s ∧ (tl s).length ≤ 10
def lowB (lo : Int) : Bool := decide (0 ≤ lo ∧ lo ≤ 3)
def highB (lo : Int) : Option Int → Bool
  | none => true
  | some h => decide (max 1 lo ≤ h ∧ h ≤ 7)
def spanB : Option Int → Bool
  | none => true
  | some h => decide (1 ≤ h ∧ h ≤ 4)
/-- the first part that no rule has -/
def partBad (xs : List Str) (lo : Int) (hi sp : Option Int) : Option Str :=
  if wordsB xs = true then (if lowB lo = true then (if highB lo hi = true then (if spanB sp = true then none else some (Str.ofString "span")) else some (Str.ofString "high")) else some (Str.ofString "low")) else some (Str.ofString "words")
/-- BadRule with its part -/
def partOut (C : Addr) (p : Option Str) (H : Hp) (E : XK) : Prop := ∀ s : Str, p = some s → ∀ d H', Same H H' → H d = none → H' d = some (.xd [("part", .str s)]) → E (.ref C) (some d) H'
def spCP (C : Addr) : Sp := fun vs H Q E => ∃ (l : Addr) (xs : List Str) (lo : Int) (hi sp : Option Int), vs = [.ref l, .int lo, vI hi, vI sp] ∧ H l = some (.lst (xs.map V.str)) ∧ xs.length ≤ 60 ∧ (∀ x ∈ xs, (tl x).length ≤ 1000) ∧
  (partBad xs lo hi sp = none → ∀ H', Same H H' → Q .non H') ∧ partOut C (partBad xs lo hi sp) H E
theorem max_if (a b : Int) : (if b > a then b else a) = max a b := by
  by_cases h : b > a
  · rw [if_pos h]
    omega
  · rw [if_neg h]
    omega
theorem ok_cp {f fAW C : Addr} {fd fdAW : FuncData} (F : Fun K "check_parts" "check_parts" sCP f fd) (G : FnOk P w K mg base CX0 3 fAW fdAW ["texts"] spAW) (gm : mg "are_words" = some (.ref fAW)) (gk : PySem.W.keepIn K (.ref fAW) = true) (gb : Binds K fdAW ["texts"] [])
    (mm : mg "max" = none) (NL : Num mg "GREATEST_LOW" 3) (NH : Num mg "GREATEST_HIGH" 7) (NS : Num mg "GREATEST_SPAN" 4) (T : ErrOk P w K mg base "BadRule" "part" C okStr) : FnOk P w K mg base (L2.CX P w) 4 f fd ["words", "low", "high", "span"] (spCP C) := by
  obtain ⟨uL, mL, rL⟩ := NL
  obtain ⟨uH, mH, rH⟩ := NH
  obtain ⟨uS, mS, rS⟩ := NS
  refine F.okX scCP (fun vs H Q E h => ?_) (fun cdv A outer s H vs Q E hr h => ?_)
  · obtain ⟨l, xs, lo, hi, sp, rfl, _⟩ := h
    rfl
  · obtain ⟨l, xs, lo, hi, sp, rfl, hl, h60, hx, q1, q2⟩ := h
    refine ⟨_, pss_cons (ps_if (pt_not (pt_val (pe_call G hr rfl gm gk gb .nil pass0 (pa_cons (pv 0) pa_nil)))) (pss_one (ps_raise rfl (takes_of rfl rfl rfl rfl) (pmk_err T (hr.mono (by decide)) rfl pe_str))) pss_nil)
      (pss_cons (ps_if (pt_not (pt_chain op_le op_le pe_int (pv 1) (pe_glob rfl mL rL))) (pss_one (ps_raise rfl (takes_of rfl rfl rfl rfl) (pmk_err T (hr.mono (by decide)) rfl pe_str))) pss_nil)
      (pss_cons (ps_if (PW.pt (pw_and (pt_cmpR op_notN (pv 2) pe_non (nomark _)) (pw_and1 (pt_not (pt_chain op_le op_le (pe_callB (call_max2 rfl) (by rfl) mm (by decide +kernel) (pa_cons pe_int (pa_cons (pv 1) pa_nil))) (pv 2) (pe_glob rfl mH rH)))))) (pss_one (ps_raise rfl (takes_of rfl rfl rfl rfl) (pmk_err T (hr.mono (by decide)) rfl pe_str))) pss_nil)
      (pss_one (ps_if (PW.pt (pw_and (pt_cmpR op_notN (pv 3) pe_non (nomark _)) (pw_and1 (pt_not (pt_chain op_le op_le pe_int (pv 3) (pe_glob rfl mS rS)))))) (pss_one (ps_raise rfl (takes_of rfl rfl rfl rfl) (pmk_err T (hr.mono (by decide)) rfl pe_str))) pss_nil)))), ?_⟩
    refine ⟨_, rfl, l, xs, rfl, hl, h60, hx, fun H1 s1 => ⟨_, rfl, ?_⟩⟩
    have q1' : partBad xs lo hi sp = none → Q .non H1 := fun e => q1 e H1 s1
    have q2' : ∀ s : Str, partBad xs lo hi sp = some s → ∀ d H', Same H1 H' → H1 d = none → H' d = some (.xd [("part", .str s)]) → E (.ref C) (some d) H' := fun s e d H' s2 n e2 => q2 s e d H' (s1.trans s2) (s1.free n) e2
    clear q1 q2
    unfold partBad at q1' q2'
    cases hw : wordsB xs with
    | false =>
      refine iteT (err_read ⟨_, rfl, by decide⟩ fun d H2 s2 nd e2 => ?_)
      rw [if_neg (by rw [hw]; decide)] at q2'
      exact q2' _ rfl d H2 s2 nd e2
    | true =>
      rw [if_pos hw] at q1' q2'
      refine iteF ⟨_, rfl, _, _, rfl, rfl, _, rfl, ?_⟩
      have bad1 : lowB lo = false → ∀ d H2, Same H1 H2 → H1 d = none → H2 d = some (.xd [("part", .str (Str.ofString "low"))]) → E (.ref C) (some d) H2 := fun e d H2 s2 nd e2 => by
        rw [if_neg (by rw [e]; decide)] at q2'
        exact q2' _ rfl d H2 s2 nd e2
      by_cases h0 : (0 : Int) ≤ lo
      · rw [decide_eq_true h0]
        refine iteT ⟨_, _, rfl, rfl, _, rfl, ?_⟩
        by_cases h3 : lo ≤ 3
        · rw [decide_eq_true h3]
          have hlo : lowB lo = true := decide_eq_true ⟨h0, h3⟩
          rw [if_pos hlo] at q1' q2'
          refine iteF ?_
          clear bad1
          have hS : highB lo hi = true → (spanB sp = true → Q .non H1) ∧ (spanB sp = false → ∀ d H2, Same H1 H2 → H1 d = none → H2 d = some (.xd [("part", .str (Str.ofString "span"))]) → E (.ref C) (some d) H2) := fun c => by
            rw [if_pos c] at q1' q2'
            refine ⟨fun z => q1' (if_pos z), fun z d H2 s2 nd e2 => ?_⟩
            rw [if_neg (by rw [z]; decide)] at q2'
            exact q2' _ rfl d H2 s2 nd e2
          have hB : highB lo hi = false → ∀ d H2, Same H1 H2 → H1 d = none → H2 d = some (.xd [("part", .str (Str.ofString "high"))]) → E (.ref C) (some d) H2 := fun z d H2 s2 nd e2 => by
            rw [if_neg (by rw [z]; decide)] at q2'
            exact q2' _ rfl d H2 s2 nd e2
          clear q1' q2'
          cases hi with
          | none =>
            refine ⟨.non, rfl, rfl, _, rfl, iteF (iteF ?_)⟩
            obtain ⟨s1', s2'⟩ := hS rfl
            cases sp with
            | none =>
              exact ⟨.non, rfl, rfl, _, rfl, iteF (iteF (s1' rfl))⟩
            | some k =>
              refine ⟨.int k, rfl, rfl, _, rfl, iteT ⟨_, rfl, _, _, rfl, rfl, _, rfl, ?_⟩⟩
              by_cases k1 : (1 : Int) ≤ k
              · rw [decide_eq_true k1]
                refine iteT ⟨_, _, rfl, rfl, _, rfl, ?_⟩
                by_cases k4 : k ≤ 4
                · rw [decide_eq_true k4]
                  exact iteF (s1' (decide_eq_true ⟨k1, k4⟩))
                · rw [decide_eq_false k4]
                  exact iteT (err_read ⟨_, rfl, by decide⟩ fun d H2 s2 nd e2 => s2' (decide_eq_false (fun z => k4 z.2)) d H2 s2 nd e2)
              · rw [decide_eq_false k1]
                exact iteF ⟨_, rfl, iteT (err_read ⟨_, rfl, by decide⟩ fun d H2 s2 nd e2 => s2' (decide_eq_false (fun z => k1 z.1)) d H2 s2 nd e2)⟩
          | some g =>
            refine ⟨.int g, rfl, rfl, _, rfl, iteT ⟨_, rfl, _, _, rfl, _, rfl, _, _, rfl, rfl, _, rfl, ?_⟩⟩
            rw [max_if]
            by_cases g1 : max 1 lo ≤ g
            · rw [decide_eq_true g1]
              refine iteT ⟨_, _, rfl, rfl, _, rfl, ?_⟩
              by_cases g7 : g ≤ 7
              · rw [decide_eq_true g7]
                refine iteF ?_
                obtain ⟨s1', s2'⟩ := hS (decide_eq_true ⟨g1, g7⟩)
                cases sp with
                | none =>
                  exact ⟨.non, rfl, rfl, _, rfl, iteF (iteF (s1' rfl))⟩
                | some k =>
                  refine ⟨.int k, rfl, rfl, _, rfl, iteT ⟨_, rfl, _, _, rfl, rfl, _, rfl, ?_⟩⟩
                  by_cases k1 : (1 : Int) ≤ k
                  · rw [decide_eq_true k1]
                    refine iteT ⟨_, _, rfl, rfl, _, rfl, ?_⟩
                    by_cases k4 : k ≤ 4
                    · rw [decide_eq_true k4]
                      exact iteF (s1' (decide_eq_true ⟨k1, k4⟩))
                    · rw [decide_eq_false k4]
                      exact iteT (err_read ⟨_, rfl, by decide⟩ fun d H2 s2 nd e2 => s2' (decide_eq_false (fun z => k4 z.2)) d H2 s2 nd e2)
                  · rw [decide_eq_false k1]
                    exact iteF ⟨_, rfl, iteT (err_read ⟨_, rfl, by decide⟩ fun d H2 s2 nd e2 => s2' (decide_eq_false (fun z => k1 z.1)) d H2 s2 nd e2)⟩
              · rw [decide_eq_false g7]
                exact iteT (err_read ⟨_, rfl, by decide⟩ fun d H2 s2 nd e2 => hB (decide_eq_false (fun z => g7 z.2)) d H2 s2 nd e2)
            · rw [decide_eq_false g1]
              exact iteF ⟨_, rfl, iteT (err_read ⟨_, rfl, by decide⟩ fun d H2 s2 nd e2 => hB (decide_eq_false (fun z => g1 z.1)) d H2 s2 nd e2)⟩
        · rw [decide_eq_false h3]
          refine iteT (err_read ⟨_, rfl, by decide⟩ fun d H2 s2 nd e2 => bad1 (decide_eq_false (fun z => h3 z.2)) d H2 s2 nd e2)
      · rw [decide_eq_false h0]
        refine iteF ⟨_, rfl, iteT (err_read ⟨_, rfl, by decide⟩ fun d H2 s2 nd e2 => bad1 (decide_eq_false (fun z => h0 z.1)) d H2 s2 nd e2)⟩
end
end K04

set_option Elab.async false
set_option linter.all false
set_option maxRecDepth 100000
set_option maxHeartbeats 4000000
namespace K04
open PySem PySem.Spec PyProof.Rows L2 Pw TL
section
variable {P : Program} {w : World} {K : PySem.W.Frag} {mg : Str → Option Value} {base : Heap}
/-! Rule.__init__ -/
abbrev sRI : Stmt := inClass (topS 17) 0
theorem scRI : FnScope ["self", "words", "low", "high", "span", "given"] ["self", "words", "low", "high", "span"] (defScope sRI) := ⟨rfl, rfl, rfl, by decide +kernel, rfl, by decide +kernel, by decide +kernel⟩
/-- what the program says of the class Rule -/
structure RuleC (K : PySem.W.Frag) (R : Addr) : Prop where
  c : Cls K R
  n1 : NoAttr K R "barred"
  n2 : NoAttr K R "least_gap"
  n3 : NoAttr K R "most_idle"
  n4 : NoAttr K R "most_swing"
def fsR (p : Addr) (lo : Int) (hi sp : Option Int) : List (Str × V) := [("barred", .ref p), ("least_gap", .int lo), ("most_idle", vI hi), ("most_swing", vI sp)]
/-- a rule at r, its words' list at p -/
def RuleAt (H : Hp) (R r p : Addr) (ys : List Str) (lo : Int) (hi sp : Option Int) : Prop := ∃ dx, H r = some (.ins R dx (fsR p lo hi sp)) ∧ H p = some (.lst (ys.map V.str))
theorem RuleAt.same {H H1 : Hp} {R r p : Addr} {ys : List Str} {lo : Int} {hi sp : Option Int} (h : RuleAt H R r p ys lo hi sp) (s : Same H H1) : RuleAt H1 R r p ys lo hi sp := by
  obtain ⟨dx, h1, h2⟩ := h
  exact ⟨dx, s _ _ h1, s _ _ h2⟩
/-- what is handed in as words -/
def wordsIn (H : Hp) (v : V) (xs : List Str) : Prop := (v = .non ∧ xs = []) ∨ ∃ l, v = .ref l ∧ H l = some (.lst (xs.map V.str))
def spRI (R C : Addr) : Sp := fun vs H Q E => ∃ (a dx : Addr) (wv : V) (xs : List Str) (lo : Int) (hi sp : Option Int), vs = [.ref a, wv, .int lo, vI hi, vI sp] ∧ H a = some (.ins R dx []) ∧ wordsIn H wv xs ∧ xs.length ≤ 60 ∧ (∀ x ∈ xs, (tl x).length ≤ 1000) ∧
  (partBad xs lo hi sp = none → ∀ ys p H', ys.Perm xs → sortedS ys = true → H p = none → (∀ b o, b ≠ a → H b = some o → H' b = some o) → RuleAt H' R a p ys lo hi sp → Q .non H') ∧ partOut C (partBad xs lo hi sp) H E
theorem ok_ri {f fCP C R : Addr} {fd fdCP : FuncData} {ds : List V} (F : FunD K "__init__" "Rule.__init__" (defArgs sRI) (defBody sRI) (defScope sRI) ds [] f fd) (G : FnOk P w K mg base (L2.CX P w) 4 fCP fdCP ["words", "low", "high", "span"] (spCP C)) (gm : mg "check_parts" = some (.ref fCP)) (gk : PySem.W.keepIn K (.ref fCP) = true) (gb : Binds K fdCP ["words", "low", "high", "span"] [])
    (ms : mg "sorted" = none) (T : RuleC K R) : FnOk P w K mg base (L2.CX P w) 5 f fd ["self", "words", "low", "high", "span"] (spRI R C) := by
  refine F.ok scRI (fun vs H Q E h => ?_) (fun cdv A outer s H vs Q E hr h => ?_)
  · obtain ⟨a, dx, wv, xs, lo, hi, sp, rfl, _⟩ := h
    rfl
  · obtain ⟨a, dx, wv, xs, lo, hi, sp, rfl, ha, hw, h60, hx, q1, q2⟩ := h
    refine ⟨_, pss_cons (ps_set (i := 5) scRI.nd rfl (.inl rfl) (pe_ifExp (pt_cmpR op_isN (pv 1) pe_non (nomark _)) (pe_lst pa_nil) (pv 1)))
      (pss_cons (ps_expr (pe_call (E := E) G hr rfl gm gk gb .nil (passes_call (takes_of rfl rfl rfl rfl) (fun _ _ _ _ z => z)) (pa_cons (pv 5) (pa_cons (pv 2) (pa_cons (pv 3) (pa_cons (pv 4) pa_nil))))))
      (pss_cons (ps_fld (pv 0) (pe_callB cr_sortedS (by rfl) ms (by decide +kernel) (pa_cons (pv 5) pa_nil)) rfl)
      (pss_cons (ps_fld (pv 0) (pv 2) rfl)
      (pss_cons (ps_fld (pv 0) (pv 3) rfl)
      (pss_one (ps_fld (pv 0) (pv 4) rfl)))))), ?_⟩
    rcases hw with ⟨rfl, rfl⟩ | ⟨l, rfl, hl⟩
    · refine ⟨.non, rfl, rfl, _, rfl, iteT ⟨by show 0 ≤ sizeLine; decide, fun l nl => ?_⟩⟩
      have s0 : Same H (upd H l (.lst [])) := same_new nl
      refine ⟨_, rfl, _, rfl, _, rfl, _, rfl, l, [], lo, hi, sp, rfl, upd_same, h60, hx, fun e H1 s1 => ?_, fun s e d H' s2 n e2 => q2 s e d H' (s0.trans s2) (s0.free n) e2⟩
      have hl1 : H1 l = some (.lst (([] : List Str).map V.str)) := s1 _ _ upd_same
      have ha1 : H1 a = some (.ins R dx []) := (s0.trans s1) _ _ ha
      refine ⟨_, rfl, l, [], rfl, SqL.of hl1, by decide, fun ys p hp hs np => ?_⟩
      have npH : H p = none := (s0.trans s1).free np
      have nea : a ≠ p := ne_of_none ha1 np
      refine ⟨_, rfl, a, R, dx, [], rfl, by rw [upd_ne nea]; exact ha1, T.c, T.n1, by decide, ?_⟩
      refine ⟨_, rfl, _, rfl, a, R, dx, _, rfl, upd_same, T.c, T.n2, by show (1 : Nat) < 1000; decide, ?_⟩
      refine ⟨_, rfl, _, rfl, a, R, dx, _, rfl, upd_same, T.c, T.n3, by show (2 : Nat) < 1000; decide, ?_⟩
      refine ⟨_, rfl, _, rfl, a, R, dx, _, rfl, upd_same, T.c, T.n4, by show (3 : Nat) < 1000; decide, ?_⟩
      refine q1 e ys p _ hp hs npH (fun b o hb hbo => ?_) ⟨dx, upd_same, ?_⟩
      · rw [upd_ne hb, upd_ne hb, upd_ne hb, upd_ne hb, upd_ne (ne_of_none hbo npH)]
        exact (s0.trans s1) _ _ hbo
      · rw [upd_ne nea.symm, upd_ne nea.symm, upd_ne nea.symm, upd_ne nea.symm, upd_same]
    · have nn : decide (V.ref l = V.non) = false := rfl
      refine ⟨.ref l, rfl, rfl, _, rfl, ?_⟩
      rw [nn]
      refine iteF ⟨_, rfl, ?_⟩
      refine ⟨_, rfl, _, rfl, _, rfl, _, rfl, l, xs, lo, hi, sp, rfl, hl, h60, hx, fun e H1 s1 => ?_, q2⟩
      have hl1 : H1 l = some (.lst (xs.map V.str)) := s1 _ _ hl
      have ha1 : H1 a = some (.ins R dx []) := s1 _ _ ha
      refine ⟨_, rfl, l, xs, rfl, SqL.of hl1, by omega, fun ys p hp hs np => ?_⟩
      have npH : H p = none := s1.free np
      have nea : a ≠ p := ne_of_none ha1 np
      refine ⟨_, rfl, a, R, dx, [], rfl, by rw [upd_ne nea]; exact ha1, T.c, T.n1, by decide, ?_⟩
      refine ⟨_, rfl, _, rfl, a, R, dx, _, rfl, upd_same, T.c, T.n2, by show (1 : Nat) < 1000; decide, ?_⟩
      refine ⟨_, rfl, _, rfl, a, R, dx, _, rfl, upd_same, T.c, T.n3, by show (2 : Nat) < 1000; decide, ?_⟩
      refine ⟨_, rfl, _, rfl, a, R, dx, _, rfl, upd_same, T.c, T.n4, by show (3 : Nat) < 1000; decide, ?_⟩
      refine q1 e ys p _ hp hs npH (fun b o hb hbo => ?_) ⟨dx, upd_same, ?_⟩
      · rw [upd_ne hb, upd_ne hb, upd_ne hb, upd_ne hb, upd_ne (ne_of_none hbo npH)]
        exact s1 _ _ hbo
      · rw [upd_ne nea.symm, upd_ne nea.symm, upd_ne nea.symm, upd_ne nea.symm, upd_same]
/-! what a rule tells of itself -/
abbrev sMW : Stmt := inClass (topS 17) 1
abbrev sML : Stmt := inClass (topS 17) 2
abbrev sMH : Stmt := inClass (topS 17) 3
abbrev sMS : Stmt := inClass (topS 17) 4
theorem scMW : FnScope ["self"] ["self"] (defScope sMW) := ⟨rfl, rfl, rfl, by decide +kernel, rfl, by decide +kernel, by decide +kernel⟩
theorem scML : FnScope ["self"] ["self"] (defScope sML) := ⟨rfl, rfl, rfl, by decide +kernel, rfl, by decide +kernel, by decide +kernel⟩
theorem scMH : FnScope ["self"] ["self"] (defScope sMH) := ⟨rfl, rfl, rfl, by decide +kernel, rfl, by decide +kernel, by decide +kernel⟩
theorem scMS : FnScope ["self"] ["self"] (defScope sMS) := ⟨rfl, rfl, rfl, by decide +kernel, rfl, by decide +kernel, by decide +kernel⟩
def spMW (R : Addr) : Sp := fun vs H Q _ => ∃ (r p : Addr) (ys : List Str) (lo : Int) (hi sp : Option Int), vs = [.ref r] ∧ RuleAt H R r p ys lo hi sp ∧ ∀ l, H l = none → Q (.ref l) (upd H l (.lst (ys.map V.str)))
def spMO (R : Addr) (g : Int → Option Int → Option Int → V) : Sp := fun vs H Q _ => ∃ (r p : Addr) (ys : List Str) (lo : Int) (hi sp : Option Int), vs = [.ref r] ∧ RuleAt H R r p ys lo hi sp ∧ Q (g lo hi sp) H
theorem ok_mw {f R : Addr} {fd : FuncData} {k : Nat} (F : Fun K "words" "Rule.words" sMW f fd) (T : RuleC K R) (ml : mg "list" = none) : FnOk P w K mg base CX0 (k + 1) f fd ["self"] (spMW R) := by
  refine F.ok scMW (fun vs H Q E h => ?_) (fun cdv A outer s H vs Q E hr h => ?_)
  · obtain ⟨r, p, ys, lo, hi, sp, rfl, _⟩ := h
    rfl
  · obtain ⟨r, p, ys, lo, hi, sp, rfl, ⟨dx, h1, h2⟩, q⟩ := h
    refine ⟨_, pss_one (ps_ret (pe_callTy call_list_of (by rfl) ml (by decide +kernel) (pa_cons (pe_fld (pv 0) rfl) pa_nil))), ?_⟩
    exact ⟨_, rfl, r, R, dx, _, .ref p, rfl, h1, T.c, T.n1, rfl, p, _, rfl, .inl (SqL.of h2), q⟩
theorem ok_ml {f R : Addr} {fd : FuncData} {k : Nat} (F : Fun K "low" "Rule.low" sML f fd) (T : RuleC K R) : FnOk P w K mg base CX0 (k + 1) f fd ["self"] (spMO R fun lo _ _ => .int lo) := by
  refine F.ok scML (fun vs H Q E h => ?_) (fun cdv A outer s H vs Q E hr h => ?_)
  · obtain ⟨r, p, ys, lo, hi, sp, rfl, _⟩ := h
    rfl
  · obtain ⟨r, p, ys, lo, hi, sp, rfl, ⟨dx, h1, h2⟩, q⟩ := h
    exact ⟨_, pss_one (ps_ret (pe_fld (pv 0) rfl)), _, rfl, r, R, dx, _, _, rfl, h1, T.c, T.n2, rfl, q⟩
theorem ok_mh {f R : Addr} {fd : FuncData} {k : Nat} (F : Fun K "high" "Rule.high" sMH f fd) (T : RuleC K R) : FnOk P w K mg base CX0 (k + 1) f fd ["self"] (spMO R fun _ hi _ => vI hi) := by
  refine F.ok scMH (fun vs H Q E h => ?_) (fun cdv A outer s H vs Q E hr h => ?_)
  · obtain ⟨r, p, ys, lo, hi, sp, rfl, _⟩ := h
    rfl
  · obtain ⟨r, p, ys, lo, hi, sp, rfl, ⟨dx, h1, h2⟩, q⟩ := h
    exact ⟨_, pss_one (ps_ret (pe_fld (pv 0) rfl)), _, rfl, r, R, dx, _, _, rfl, h1, T.c, T.n3, rfl, q⟩
theorem ok_ms {f R : Addr} {fd : FuncData} {k : Nat} (F : Fun K "span" "Rule.span" sMS f fd) (T : RuleC K R) : FnOk P w K mg base CX0 (k + 1) f fd ["self"] (spMO R fun _ _ sp => vI sp) := by
  refine F.ok scMS (fun vs H Q E h => ?_) (fun cdv A outer s H vs Q E hr h => ?_)
  · obtain ⟨r, p, ys, lo, hi, sp, rfl, _⟩ := h
    rfl
  · obtain ⟨r, p, ys, lo, hi, sp, rfl, ⟨dx, h1, h2⟩, q⟩ := h
    exact ⟨_, pss_one (ps_ret (pe_fld (pv 0) rfl)), _, rfl, r, R, dx, _, _, rfl, h1, T.c, T.n4, rfl, q⟩
end
end K04

set_option Elab.async false
set_option linter.all false
set_option maxRecDepth 100000
set_option maxHeartbeats 4000000
namespace K04
open PySem PySem.Spec PyProof.Rows L2 Pw TL
section
variable {P : Program} {w : World} {K : PySem.W.Frag} {mg : Str → Option Value} {base : Heap}
/-- the draw's list at p, its script at q -/
def Dr (p q : Addr) (ns : List Int) (H : Hp) : Prop := H q = some (.lst (ns.map V.int)) ∧ ∃ a b c : Int, H p = some (.lst [.ref q, .int a, .int b, .int c]) ∧ 0 ≤ a ∧ 0 ≤ b ∧ 0 ≤ c ∧ c < 2147483647
/-- all but what stands at p is kept -/
def SameX (p : Addr) (H H' : Hp) : Prop := ∀ b o, H b = some o → b ≠ p → H' b = some o
theorem SameX.refl (p : Addr) (H : Hp) : SameX p H H := fun _ _ e _ => e
theorem SameX.trans {p : Addr} {H H1 H2 : Hp} (a : SameX p H H1) (b : SameX p H1 H2) : SameX p H H2 := fun c o e n => b c o (a c o e n) n
theorem SameX.of {p : Addr} {H H1 : Hp} (s : Same H H1) : SameX p H H1 := fun b o e _ => s b o e
theorem SameX.put {p : Addr} {H H1 : Hp} {o : HO} (s : SameX p H H1) : SameX p H (upd H1 p o) := fun b x e n => by
  rw [upd_ne n]
  exact s b x e n
theorem SameX.new {p d : Addr} {H H1 : Hp} {o : HO} (s : SameX p H H1) (n : H1 d = none) : SameX p H (upd H1 d o) := fun b x e ne => by
  have h1 := s b x e ne
  rw [upd_ne (ne_of_none h1 n)]
  exact h1
theorem Dr.ne {p q : Addr} {ns : List Int} {H : Hp} (h : Dr p q ns H) : q ≠ p := by
  obtain ⟨h1, a, b, c, h2, _⟩ := h
  intro e
  rw [e, h2] at h1
  have e2 : [V.ref q, .int a, .int b, .int c] = ns.map V.int := HO.lst.inj (Option.some.inj h1)
  cases ns with
  | nil => simp at e2
  | cons n r => simp at e2
theorem Dr.same {p q : Addr} {ns : List Int} {H H' : Hp} (h : Dr p q ns H) (s : Same H H') : Dr p q ns H' := ⟨s _ _ h.1, let ⟨a, b, c, e, r⟩ := h.2; ⟨a, b, c, s _ _ e, r⟩⟩
theorem Dr.put {p q : Addr} {ns : List Int} {H : Hp} {a b c : Int} (h : H q = some (.lst (ns.map V.int))) (n : q ≠ p) (ha : 0 ≤ a) (hb : 0 ≤ b) (hc : 0 ≤ c) (hc2 : c < 2147483647) : Dr p q ns (upd H p (.lst [.ref q, .int a, .int b, .int c])) :=
  ⟨by rw [upd_ne n]; exact h, a, b, c, upd_same, ha, hb, hc, hc2⟩
/-! _law_open -/
abbrev sOP : Stmt := topS 19
theorem scOP : FnScope ["_law_script"] ["_law_script"] (defScope sOP) := ⟨rfl, rfl, rfl, by decide +kernel, rfl, by decide +kernel, by decide +kernel⟩
def spOP (K : PySem.W.Frag) : Sp := fun vs H Q _ => ∃ (a : Addr) (ns : List Int), vs = [.ref a] ∧ SqL K H a (ns.map V.int) ∧ ∀ H' p q ms, Same H H' → H p = none → Dr p q ms H' → Q (.ref p) H'
theorem ok_op {f : Addr} {fd : FuncData} {k : Nat} (F : Fun K "_law_open" "_law_open" sOP f fd) (ml : mg "list" = none) : FnOk P w K mg base CX0 (k + 1) f fd ["_law_script"] (spOP K) := by
  refine F.ok scOP (fun vs H Q E h => ?_) (fun cdv A outer s H vs Q E hr h => ?_)
  · obtain ⟨a, ns, rfl, _⟩ := h
    rfl
  · obtain ⟨a, ns, rfl, hS, q⟩ := h
    refine ⟨_, pss_one (ps_ret (pe_lst (pa_cons (pe_callTy call_list_of (by rfl) ml (by decide +kernel) (pa_cons (pe_slice sl_list (pv 0) po_none (po_some pe_int)) pa_nil)) (pa_cons pe_int (pa_cons pe_int (pa_cons pe_int pa_nil)))))), ?_⟩
    refine ⟨.ref a, rfl, 63, rfl, a, _, rfl, hS, fun p1 n1 => ?_⟩
    refine ⟨p1, _, rfl, .inl (SqL.of upd_same), fun q1 n2 => ⟨by show 4 ≤ sizeLine; decide, fun p n3 => ?_⟩⟩
    have e2 : q1 ≠ p := ne_of_none upd_same n3
    have ec : cutV (ns.map V.int) none (some 63) = (ns.take 63).map V.int := by
      unfold cutV
      rw [show HT.sIx (ns.map V.int).length (ns.map V.int).length (some 63) = min 63 (ns.map V.int).length from HT.sIx_nat _ _ 63]
      show List.take (min 63 (ns.map V.int).length - 0) (ns.map V.int) = _
      rw [Nat.sub_zero, List.map_take]
      exact (List.take_eq_take_min).symm
    have s2 : Same H (upd (upd H p1 (.lst (cutV (ns.map V.int) none (some 63)))) q1 (.lst (cutV (ns.map V.int) none (some 63)))) := (same_new n1).trans (same_new n2)
    refine q _ p q1 (ns.take 63) (s2.trans (same_new n3)) (s2.free n3) ⟨?_, 0, 0, 37, upd_same, by decide, by decide, by decide, by decide⟩
    rw [upd_ne e2, upd_same, ec]
/-! _law_pull -/
abbrev sPU : Stmt := topS 20
theorem scPU : FnScope ["_law_draw", "_law_total_of", "_law_cell", "_law_got", "_law_seed"] ["_law_draw", "_law_total_of"] (defScope sPU) := ⟨rfl, rfl, rfl, by decide +kernel, rfl, by decide +kernel, by decide +kernel⟩
def spPU : Sp := fun vs H Q _ => ∃ (p q : Addr) (ns : List Int) (n : Int), vs = [.ref p, .int n] ∧ 0 < n ∧ n < 1073741824 ∧ Dr p q ns H ∧ ∀ v H', 0 ≤ v → v < n → SameX p H H' → Dr p q ns H' → Q (.int v) H'
/-- behind the drawing of a cell: the last two ways -/
theorem ok_pu {f : Addr} {fd : FuncData} {k : Nat} (F : Fun K "_law_pull" "_law_pull" sPU f fd) (ml : mg "len" = none) : FnOk P w K mg base CX0 (k + 1) f fd ["_law_draw", "_law_total_of"] spPU := by
  refine F.ok scPU (fun vs H Q E h => ?_) (fun cdv A outer s H vs Q E hr h => ?_)
  · obtain ⟨p, q, ns, n, rfl, _⟩ := h
    rfl
  · obtain ⟨p, q, ns, n, rfl, n0, n1, hD, k⟩ := h
    refine ⟨_, C8.pss_cut (ps_if (PW.pt (pw_and (pt_cmpR op_lt (pe_ix ix_list (pv 0) pe_int (fun _ _ => rfl)) (pv 1) (nomark _))
          (pw_and1 (pt_cmpR op_lt (pe_ix ix_list (pv 0) pe_int (fun _ _ => rfl)) (pe_callB call_len_seq (by rfl) ml PySem.boot_len (pa_cons (pe_ix ix_list (pv 0) pe_int (fun _ _ => rfl)) pa_nil)) (nomark _)))))
        (pss_cons (ps_set (i := 2) scPU.nd rfl (.inl rfl) (pe_ix ix_list (pe_ix ix_list (pv 0) pe_int (fun _ _ => rfl)) (pe_ix ix_list (pv 0) pe_int (fun _ _ => rfl)) (fun _ _ => rfl)))
        (pss_cons (ps_asg (pe_op op_add (pe_ix ix_list (pv 0) pe_int (fun _ _ => rfl)) pe_int) (pg_sub (pv 0) pe_int set_list))
        (pss_cons (ps_asg pe_int (pg_sub (pv 0) pe_int set_list))
        (pss_one (ps_if (pt_cmpR op_ge (pv 2) (pe_op op_pow pe_int pe_int) (nomark _)) (pss_one (ps_asg (pv 2) (pg_sub (pv 0) pe_int set_list)))
          (pss_one (ps_asg (pe_op op_modN (pe_op op_add (pe_op op_add (pe_op op_mul (pe_ix ix_list (pv 0) pe_int (fun _ _ => rfl)) pe_int) (pe_op op_mul (pe_op op_modN (pv 2) pe_int) pe_int)) pe_int) pe_int) (pg_sub (pv 0) pe_int set_list)))))))) pss_nil)
      (pss_cons (ps_if (pt_cmpR op_ge (pe_ix ix_list (pv 0) pe_int (fun _ _ => rfl)) (pv 1) (nomark _))
        (pss_cons (ps_set (i := 3) scPU.nd rfl (.inl rfl) (pe_op op_modN (pe_ix ix_list (pv 0) pe_int (fun _ _ => rfl)) (pv 1)))
        (pss_cons (ps_asg (pe_op op_fdivN (pe_ix ix_list (pv 0) pe_int (fun _ _ => rfl)) (pv 1)) (pg_sub (pv 0) pe_int set_list)) (pss_one (ps_ret (pv 3))))) pss_nil)
      (pss_cons (ps_set (i := 4) scPU.nd rfl (.inl rfl) (pe_ix ix_list (pv 0) pe_int (fun _ _ => rfl)))
      (pss_cons (ps_asg (pe_op op_modN (pe_op op_add (pe_op op_add (pe_op op_mul (pe_op op_modN (pe_op op_mul (pv 4) (pv 4)) pe_int) pe_int) (pe_op op_mul (pv 4) pe_int)) pe_int) pe_int) (pg_sub (pv 0) pe_int set_list))
      (pss_one (ps_ret (pe_op op_modN (pe_op op_add (pe_op op_fdivN (pe_ix ix_list (pv 0) pe_int (fun _ _ => rfl)) pe_int) (pe_op op_mul (pe_op op_modN (pe_ix ix_list (pv 0) pe_int (fun _ _ => rfl)) pe_int) pe_int)) (pv 1))))))), ?_⟩
    have nq := hD.ne
    refine ⟨fun σ H1 => (∃ y, σ = [some (.ref p), some (.int n), y, none, none]) ∧ SameX p H H1 ∧ Dr p q ns H1, ?_, ?_⟩
    · obtain ⟨hq, a, b, c, hp, ha, hb, hc, hc2⟩ := id hD
      refine ⟨.ref p, rfl, p, _, 2, .int b, rfl, rfl, SqL.of hp, rfl, _, rfl, b, n, rfl, rfl, _, rfl, ?_⟩
      by_cases hbn : b < n
      · rw [decide_eq_true hbn]
        refine iteT ⟨.ref p, rfl, p, _, 1, .int a, rfl, rfl, SqL.of hp, rfl, .ref p, rfl, p, _, 0, .ref q, rfl, rfl, SqL.of hp, rfl, q, _, rfl, .inl (SqL.of hq), a, _, rfl, rfl, _, rfl, ?_⟩
        by_cases hal : a < ((ns.map V.int).length : Int)
        · rw [decide_eq_true hal]
          have hi : a.toNat < ns.length := by
            rw [List.length_map] at hal
            omega
          have ea : a = ((a.toNat : Nat) : Int) := by omega
          have hz : atI (ns.map V.int) a = some (.int ns[a.toNat]) := by
            refine at_of ea ?_
            rw [List.getElem?_map, List.getElem?_eq_getElem hi]
            rfl
          refine iteT ⟨.ref p, rfl, p, _, 0, .ref q, rfl, rfl, SqL.of hp, rfl, .ref p, rfl, p, _, 1, .int a, rfl, rfl, SqL.of hp, rfl, q, _, a, .int ns[a.toNat], rfl, rfl, SqL.of hq, hz, ?_⟩
          refine ⟨.ref p, rfl, p, _, 1, .int a, rfl, rfl, SqL.of hp, rfl, a, 1, rfl, rfl, .ref p, rfl, p, _, 1, 1, rfl, rfl, hp, rfl, ?_⟩
          have hp1 : upd H p (.lst [.ref q, .int (a + 1), .int b, .int c]) p = some (.lst [.ref q, .int (a + 1), .int b, .int c]) := upd_same
          refine ⟨.ref p, rfl, p, _, 2, 2, rfl, rfl, hp1, rfl, ?_⟩
          have hp2 : upd (upd H p (.lst [.ref q, .int (a + 1), .int b, .int c])) p (.lst [.ref q, .int (a + 1), .int 0, .int c]) p = some (.lst [.ref q, .int (a + 1), .int 0, .int c]) := upd_same
          have hq2 : upd (upd H p (.lst [.ref q, .int (a + 1), .int b, .int c])) p (.lst [.ref q, .int (a + 1), .int 0, .int c]) q = some (.lst (ns.map V.int)) := by rw [upd_ne nq, upd_ne nq]; exact hq
          refine ⟨_, rfl, 10, 18, rfl, rfl, ⟨by decide, by decide, by decide⟩, ns[a.toNat], 10 ^ 18, rfl, rfl, _, rfl, ?_⟩
          refine ite2 (fun hge => ?_) (fun hge => ?_)
          · have hge : (10 : Int) ^ 18 ≤ ns[a.toNat] := of_decide_eq_true hge
            refine ⟨_, rfl, .ref p, rfl, p, _, 2, 2, rfl, rfl, hp2, rfl, ⟨some (.int ns[a.toNat]), rfl⟩, ?_, ?_⟩
            · exact ((SameX.refl p H).put.put).put
            · exact Dr.put hq2 nq (by omega) (by omega) hc hc2
          · refine ⟨.ref p, rfl, p, _, 3, .int c, rfl, rfl, SqL.of hp2, rfl, c, 40692, rfl, rfl, .inr ⟨by decide, by decide⟩, _, rfl, _, 2147483629, rfl, rfl, (show (2147483629 : Int) ≠ 0 by decide), _, 69069, rfl, rfl, .inr ⟨by decide, by decide⟩, _, _, rfl, rfl, _, 7919, rfl, rfl, _, 2147483647, rfl, rfl, (show (2147483647 : Int) ≠ 0 by decide), .ref p, rfl, p, _, 3, 3, rfl, rfl, hp2, rfl, ⟨some (.int ns[a.toNat]), rfl⟩, ?_, ?_⟩
            · exact ((SameX.refl p H).put.put).put
            · refine Dr.put hq2 nq (by omega) (by omega) ?_ ?_
              · exact Int.fmod_nonneg_of_pos _ (by decide)
              · exact Int.fmod_lt_of_pos _ (by decide)
        · rw [decide_eq_false hal]
          exact iteF ⟨⟨none, rfl⟩, SameX.refl p H, hD⟩
      · rw [decide_eq_false hbn]
        exact iteF (iteF ⟨⟨none, rfl⟩, SameX.refl p H, hD⟩)
    · rintro σ H1 ⟨⟨y, rfl⟩, sx, hD1⟩
      obtain ⟨hq, a, b, c, hp, ha, hb, hc, hc2⟩ := id hD1
      refine ⟨.ref p, rfl, p, _, 2, .int b, rfl, rfl, SqL.of hp, rfl, _, rfl, b, n, rfl, rfl, _, rfl, ?_⟩
      refine ite2 (fun hge => ?_) (fun hge => ?_)
      · refine ⟨.ref p, rfl, p, _, 2, .int b, rfl, rfl, SqL.of hp, rfl, _, rfl, b, n, rfl, rfl, by omega, ?_⟩
        refine ⟨.ref p, rfl, p, _, 2, .int b, rfl, rfl, SqL.of hp, rfl, _, rfl, b, n, rfl, rfl, ⟨by omega, by omega⟩, .ref p, rfl, p, _, 2, 2, rfl, rfl, hp, rfl, _, rfl, ?_⟩
        refine k _ _ (Int.fmod_nonneg_of_pos _ n0) (Int.fmod_lt_of_pos _ n0) sx.put (Dr.put hq nq ha ?_ hc hc2)
        rw [Int.fdiv_eq_ediv_of_nonneg _ (by omega)]
        exact Int.ediv_nonneg hb (by omega)
      · refine ⟨.ref p, rfl, p, _, 3, .int c, rfl, rfl, SqL.of hp, rfl, ?_⟩
        refine ⟨_, rfl, _, rfl, c, c, rfl, rfl, .inl ⟨by omega, by omega⟩, _, 2147483587, rfl, rfl, (show (2147483587 : Int) ≠ 0 by decide), _, 3, rfl, rfl, .inr ⟨by decide, by decide⟩, _, rfl, c, 48271, rfl, rfl, .inr ⟨by decide, by decide⟩, _, _, rfl, rfl, _, 1013904223, rfl, rfl, _, 2147483647, rfl, rfl, (show (2147483647 : Int) ≠ 0 by decide), .ref p, rfl, p, _, 3, 3, rfl, rfl, hp, rfl, ?_⟩
        refine ⟨.ref p, rfl, p, _, 3, _, rfl, rfl, SqL.of upd_same, rfl, _, 61, rfl, rfl, ⟨by decide, by decide⟩, .ref p, rfl, p, _, 3, _, rfl, rfl, SqL.of upd_same, rfl, _, 8209, rfl, rfl, (show (8209 : Int) ≠ 0 by decide), _, 29, rfl, rfl, .inr ⟨by decide, by decide⟩, _, _, rfl, rfl, _, rfl, _, n, rfl, rfl, by omega, ?_⟩
        exact k _ _ (Int.fmod_nonneg_of_pos _ n0) (Int.fmod_lt_of_pos _ n0) sx.put (Dr.put hq nq ha hb (Int.fmod_nonneg_of_pos _ (by decide)) (Int.fmod_lt_of_pos _ (by decide)))
end
section
variable {P : Program} {w : World} {K : PySem.W.Frag} {mg : Str → Option Value} {base : Heap}
/-- pull as its callers have it -/
structure PUOk (P : Program) (w : World) (K : PySem.W.Frag) (mg : Str → Option Value) (base : Heap) : Prop where
  ex : ∃ (f : Addr) (fd : FuncData), FnOk P w K mg base CX0 1 f fd ["_law_draw", "_law_total_of"] spPU ∧ mg "_law_pull" = some (.ref f) ∧ PySem.W.keepIn K (.ref f) = true ∧ Binds K fd ["_law_draw", "_law_total_of"] []
/-! _law_row -/
abbrev sRO : Stmt := topS 23
theorem scRO : FnScope ["_law_draw", "_law_many", "_law_k"] ["_law_draw", "_law_many"] (defScope sRO) := ⟨rfl, rfl, rfl, by decide +kernel, rfl, by decide +kernel, by decide +kernel⟩
def spRO : Sp := fun vs H Q _ => ∃ (p q : Addr) (ns : List Int) (n : Nat), vs = [.ref p, .int (n : Nat)] ∧ n ≤ 1000 ∧ Dr p q ns H ∧ ∀ (x : Str) H', Pure (tl x) → (tl x).length = n → SameX p H H' → Dr p q ns H' → Q (.str x) H'
/-- texts of one sign each, 0 or 1 -/
def Signs (l : List Nat) : List V := l.map fun c => V.str ⟨#[c]⟩
theorem join_signs : ∀ l : List Nat, tl (Txt.join Str.empty (l.map fun c => (⟨#[c]⟩ : Str))) = l := by
  intro l
  rw [join_eq]
  have gen : ∀ l : List Nat, tl (Str.join Str.empty (l.map fun c => (⟨#[c]⟩ : Str))) = l := by
    intro l
    induction l with
    | nil => rfl
    | cons c r ih =>
      cases r with
      | nil => rfl
      | cons d r =>
        have e : Str.join Str.empty ((c :: d :: r).map fun c => (⟨#[c]⟩ : Str)) = (⟨#[c]⟩ : Str) ++ Str.empty ++ Str.join Str.empty ((d :: r).map fun c => (⟨#[c]⟩ : Str)) := by
          first
            | rfl
            | simp [Str.join]
        rw [e, tl_append, tl_append, ih]
        rfl
  exact gen l
theorem ok_ro {f : Addr} {fd : FuncData} (F : Fun K "_law_row" "_law_row" sRO f fd) (R : PUOk P w K mg base) (mr : mg "range" = none) : FnOk P w K mg base CX0 2 f fd ["_law_draw", "_law_many"] spRO := by
  obtain ⟨fR, fdR, G, gm, gk, gb⟩ := R.ex
  refine F.ok scRO (fun vs H Q E h => ?_) (fun cdv A outer s H vs Q E hr h => ?_)
  · obtain ⟨p, q, ns, n, rfl, _⟩ := h
    rfl
  · obtain ⟨p, q, ns, n, rfl, hn, hD, k⟩ := h
    refine ⟨_, pss_one (ps_ret (pe_join pe_str (pe_lc (own := [("_law_k", 2)]) (g := gName 2) (tt := tYes) rfl scRO.nd (pi_range1 rfl mr (pa_cons (pv 1) pa_nil))
        (blkOk_by (N := ["_law_draw", "_law_many", "_law_k"]) (sc := defScope sRO) (by decide +kernel)) (fun _ _ _ _ _ => pg_name (i := 2) scRO.nd rfl (Or.inl rfl)) (fun _ _ _ _ _ => pts_nil)
        (fun _ _ _ _ _ => pe_ix ix_str pe_str (pe_call G hr rfl gm gk gb .nil pass0 (pa_cons (pv 0) (pa_cons pe_int pa_nil))) (fun _ _ => rfl))))), ?_⟩
    have pD : ∀ {D : Addr}, H D = none → D ≠ p := fun {D} nD e => by
      obtain ⟨_, a, b, c, hp, _⟩ := hD
      rw [e, hp] at nD
      cases nD
    refine ⟨⟨_, rfl⟩, _, rfl, (n : Int), rfl, by omega, by omega, fun D nD => ?_⟩
    refine lc_range (lo := 0) (n := n) (fun i H2 => ∃ l : List Nat, Pw.Pure l ∧ l.length = i ∧ SameX p H H2 ∧ Dr p q ns H2 ∧ H2 D = some (.lst (Signs l)))
      ⟨[], (fun c hc => by cases hc), rfl, (SameX.refl p H).new nD, hD.same (same_new nD), upd_same⟩ (fun i H2 hi h => ?_) (fun H2 h => ?_)
    · obtain ⟨l, hl, hll, sx, hD2, h2⟩ := h
      refine ⟨rfl, .ref p, rfl, p, q, ns, 2, rfl, by decide, by decide, hD2, fun v H3 h0 h1 sx3 hD3 => ?_⟩
      have h3 : H3 D = some (.lst (Signs l)) := sx3 _ _ h2 (pD nD)
      have fin : ∀ c : Nat, (c = 48 ∨ c = 49) → ∃ acc, H3 D = some (.lst acc) ∧ acc.length < sizeLine ∧ ∃ l : List Nat, Pw.Pure l ∧ l.length = i + 1 ∧ SameX p H (upd H3 D (.lst (acc ++ [.str ⟨#[c]⟩]))) ∧ Dr p q ns (upd H3 D (.lst (acc ++ [.str ⟨#[c]⟩]))) ∧ (upd H3 D (.lst (acc ++ [.str ⟨#[c]⟩]))) D = some (.lst (Signs l)) := fun c hc => by
        refine ⟨_, h3, ?_, l ++ [c], ?_, ?_, ?_, ?_, ?_⟩
        · unfold Signs
          rw [List.length_map]
          exact small1000 (by omega)
        · intro d hd
          rcases List.mem_append.mp hd with z | z
          · exact hl d z
          · obtain rfl : d = c := by simpa using z
            exact hc
        · rw [List.length_append, hll]
          rfl
        · intro b o e ne
          rw [upd_ne (ne_of_none e nD)]
          exact sx3 b o (sx b o e ne) ne
        · obtain ⟨e1, a, b, c, e2, r⟩ := hD3
          have n1 : q ≠ D := ne_of_none hD.1 nD
          exact ⟨by rw [upd_ne n1]; exact e1, a, b, c, by rw [upd_ne (Ne.symm (pD nD))]; exact e2, r⟩
        · rw [upd_same]
          unfold Signs
          rw [List.map_append]
          rfl
      have hv : v = 0 ∨ v = 1 := by omega
      rcases hv with rfl | rfl
      · exact ⟨"01", 0, 48, rfl, rfl, by decide, rfl, fin 48 (.inl rfl)⟩
      · exact ⟨"01", 1, 49, rfl, rfl, by decide, rfl, fin 49 (.inr rfl)⟩
    · obtain ⟨l, hl, hll, sx, hD2, h2⟩ := h
      have e2 : Signs l = (l.map fun c => (⟨#[c]⟩ : Str)).map V.str := by
        unfold Signs
        rw [List.map_map]
        rfl
      rw [e2] at h2
      refine ⟨_, D, (l.map fun c => (⟨#[c]⟩ : Str)), rfl, rfl, .inl (SqL.of h2), ?_, ?_⟩
      · have e3 : ((l.map fun c => (⟨#[c]⟩ : Str)).map (·.length)).sum = l.length := by
          rw [List.map_map]
          clear e2 h2 hll hl
          induction l with
          | nil => rfl
          | cons c r ih =>
            rw [List.map_cons, List.sum_cons, ih, List.length_cons, Nat.add_comm]
            rfl
        rw [e3]
        show l.length + (l.map _).length * 0 ≤ _
        omega
      · refine k _ H2 ?_ ?_ sx hD2
        · rw [show Str.ofString "" = Str.empty from rfl, join_signs]
          exact hl
        · rw [show Str.ofString "" = Str.empty from rfl, join_signs]
          exact hll
end
section
variable {P : Program} {w : World} {K : PySem.W.Frag} {mg : Str → Option Value} {base : Heap}
/-- built-in names that the law reads -/
structure BN (mg : Str → Option Value) : Prop where
  isi : mg "isinstance" = none
  int : mg "int" = none
  bool : mg "bool" = none
  str : mg "str" = none
  tup : mg "tuple" = none
  lst : mg "list" = none
  len : mg "len" = none
  all : mg "all" = none
  rng : mg "range" = none
  max : mg "max" = none
  min : mg "min" = none
  abs : mg "abs" = none
  enu : mg "enumerate" = none
/-! _law_num -/
abbrev sNU : Stmt := topS 21
theorem scNU : FnScope ["_law_found"] ["_law_found"] (defScope sNU) := ⟨rfl, rfl, rfl, by decide +kernel, rfl, by decide +kernel, by decide +kernel⟩
def spNU : Sp := fun vs H Q _ => ∃ i : Int, vs = [.int i] ∧ Q (.bl true) H
theorem ok_nu {f : Addr} {fd : FuncData} {k : Nat} (F : Fun K "_law_num" "_law_num" sNU f fd) (B : BN mg) : FnOk P w K mg base CX0 (k + 1) f fd ["_law_found"] spNU := by
  refine F.ok scNU (fun vs H Q E h => ?_) (fun cdv A outer s H vs Q E hr h => ?_)
  · obtain ⟨i, rfl, _⟩ := h
    rfl
  · obtain ⟨i, rfl, q⟩ := h
    refine ⟨_, pss_one (ps_ret (pe_and (pe_callB call_isi (by rfl) B.isi (by decide +kernel) (pa_cons (pv 0) (pa_cons (pe_bltn (v := .ty "int") (by rfl) B.int (by decide +kernel) rfl) pa_nil)))
      (pe_one (pe_not (pe_callB call_isi (by rfl) B.isi (by decide +kernel) (pa_cons (pv 0) (pa_cons (pe_bltn (v := .ty "bool") (by rfl) B.bool (by decide +kernel) rfl) pa_nil))))))), ?_⟩
    refine ⟨.int i, rfl, .int i, .ty "int", .type "int", .type "int", true, rfl, .ty _, .base (.int i), kit_ty (by decide +kernel), true, rfl, iteT ?_⟩
    exact ⟨.int i, rfl, .int i, .ty "bool", .type "int", .type "bool", false, rfl, .ty _, .base (.int i), kit_ty (by decide +kernel), false, rfl, q⟩
/-! _law_like -/
abbrev sLK : Stmt := topS 22
theorem scLK : FnScope ["_law_found", "_law_due", "_law_k"] ["_law_found", "_law_due"] (defScope sLK) := ⟨rfl, rfl, rfl, by decide +kernel, rfl, by decide +kernel, by decide +kernel⟩
/-- two values that are alike, at most n deep -/
inductive Lk (K : PySem.W.Frag) (H : Hp) : Nat → V → V → Prop
  | non {n : Nat} : Lk K H n .non .non
  | bl {n : Nat} (b : Bool) : Lk K H n (.bl b) (.bl b)
  | int {n : Nat} (i : Int) : Lk K H n (.int i) (.int i)
  | str {n : Nat} (x : Str) : Lk K H n (.str x) (.str x)
  | lst {n : Nat} {a b : Addr} {xs ys : List V} (ha : SqL K H a xs) (hb : SqL K H b ys) (hl : xs.length = ys.length) (hz : xs.length ≤ 1001) (hi : ∀ (i : Nat) (x y : V), xs[i]? = some x → ys[i]? = some y → Lk K H n x y) : Lk K H (n + 1) (.ref a) (.ref b)
  | tup {n : Nat} {a b : Addr} {xs ys : List V} (ha : SqT K H a xs) (hb : SqT K H b ys) (hl : xs.length = ys.length) (hz : xs.length ≤ 1001) (hi : ∀ (i : Nat) (x y : V), xs[i]? = some x → ys[i]? = some y → Lk K H n x y) : Lk K H (n + 1) (.ref a) (.ref b)
/-- both are alike -/
def spLK (K : PySem.W.Frag) : Nat → Sp
  | 0 => fun _ _ _ _ => False
  | n + 1 => fun vs H Q _ => ∃ (v u : V), vs = [v, u] ∧ Lk K H n v u ∧ ∀ H', Same H H' → Q (.bl true) H'
theorem ty_list {H : Hp} {a : Addr} {xs : List V} (h : SqL K H a xs) : TyX K H (.ref a) (.type "list") := by
  rcases h with (h | ⟨o, h⟩) | ⟨o, its, n, h1, h2, _⟩
  · exact .base (.lst h)
  · exact .base (.frz h)
  · exact .kList h1 h2
theorem ty_tup {H : Hp} {a : Addr} {xs : List V} (h : SqT K H a xs) : TyX K H (.ref a) (.type "tuple") := by
  rcases h with (h | ⟨o, h⟩) | ⟨o, its, n, h1, h2, _⟩
  · exact .base (.tup h)
  · exact .fTuple h
  · exact .kTuple h1 h2
theorem Same.tup {H H' : Hp} {a : Addr} {xs : List V} (s : Same H H') (h : SqT K H a xs) : SqT K H' a xs := by
  rcases h with (h | ⟨o, h⟩) | h
  · exact .inl (.inl (s _ _ h))
  · exact .inl (.inr ⟨o, s _ _ h⟩)
  · exact .inr h
theorem Lk.same {H H' : Hp} (s : Same H H') : ∀ {n : Nat} {v u : V}, Lk K H n v u → Lk K H' n v u := by
  intro n v u h
  induction h with
  | non => exact .non
  | bl b => exact .bl b
  | int i => exact .int i
  | str x => exact .str x
  | lst ha hb hl hz _ ih => exact .lst (s.seq ha) (s.seq hb) hl hz ih
  | tup ha hb hl hz _ ih => exact .tup (Same.tup s ha) (Same.tup s hb) hl hz ih
theorem all_true (n : Nat) : (List.replicate n true).all id = true := by
  induction n with
  | zero => rfl
  | succ n ih => rw [List.replicate_succ, List.all_cons, ih]; rfl
theorem ok_lk {f fN : Addr} {fd fdN : FuncData} (F : Fun K "_law_like" "_law_like" sLK f fd) (B : BN mg) (fm : mg "_law_like" = some (.ref f)) (fk : PySem.W.keepIn K (.ref f) = true) (fb : Binds K fd ["_law_found", "_law_due"] [])
    (GN : FnOk P w K mg base CX0 1 fN fdN ["_law_found"] spNU) (nm : mg "_law_num" = some (.ref fN)) (nk : PySem.W.keepIn K (.ref fN) = true) (nb : Binds K fdN ["_law_found"] []) : ∀ n, FnOk P w K mg base CX0 (n + 1) f fd ["_law_found", "_law_due"] (spLK K n)
  | 0 => ⟨fun _ _ _ _ h => h.elim, fun _ _ _ _ _ _ _ _ _ _ _ _ _ h => h.elim⟩
  | n + 1 => by
    have G := ok_lk F B fm fk fb GN nm nk nb n
    refine F.ok scLK (fun vs H Q E h => ?_) (fun cdv A outer s H vs Q E hr h => ?_)
    · obtain ⟨v, u, rfl, _⟩ := h
      rfl
    · obtain ⟨v, u, rfl, hv, q⟩ := h
      have hr1 : Room 1 _ := hr.mono (Nat.le_add_left _ _)
      refine ⟨_, pss_cons (ps_if (pt_cmpR op_isN (pv 1) pe_non (nomark _)) (pss_one (ps_ret (pe_cmpR op_isN (pv 0) pe_non (nomark _)))) pss_nil)
        (pss_cons (ps_if (pt_val (pe_callB call_isi (by rfl) B.isi (by decide +kernel) (pa_cons (pv 1) (pa_cons (pe_bltn (v := .ty "bool") (by rfl) B.bool (by decide +kernel) rfl) pa_nil))))
          (pss_one (ps_ret (pe_and (pe_callB call_isi (by rfl) B.isi (by decide +kernel) (pa_cons (pv 0) (pa_cons (pe_bltn (v := .ty "bool") (by rfl) B.bool (by decide +kernel) rfl) pa_nil))) (pe_one (pe_cmpR op_eq (pv 0) (pv 1) (nomark _)))))) pss_nil)
        (pss_cons (ps_if (pt_val (pe_callB call_isi (by rfl) B.isi (by decide +kernel) (pa_cons (pv 1) (pa_cons (pe_bltn (v := .ty "int") (by rfl) B.int (by decide +kernel) rfl) pa_nil))))
          (pss_one (ps_ret (pe_and (pe_call GN hr1 rfl nm nk nb .nil pass0 (pa_cons (pv 0) pa_nil)) (pe_one (pe_cmpR op_eq (pv 0) (pv 1) (nomark _)))))) pss_nil)
        (pss_cons (ps_if (pt_val (pe_callB call_isi (by rfl) B.isi (by decide +kernel) (pa_cons (pv 1) (pa_cons (pe_bltn (v := .ty "str") (by rfl) B.str (by decide +kernel) rfl) pa_nil))))
          (pss_one (ps_ret (pe_and (pe_callB call_isi (by rfl) B.isi (by decide +kernel) (pa_cons (pv 0) (pa_cons (pe_bltn (v := .ty "str") (by rfl) B.str (by decide +kernel) rfl) pa_nil))) (pe_one (pe_cmpR op_eq (pv 0) (pv 1) (nomark _)))))) pss_nil)
        (pss_cons (ps_if (PW.pt (pw_or (pt_cmpR op_ne (pe_callB call_isi (by rfl) B.isi (by decide +kernel) (pa_cons (pv 1) (pa_cons (pe_bltn (v := .ty "tuple") (by rfl) B.tup (by decide +kernel) rfl) pa_nil))) (pe_callB call_isi (by rfl) B.isi (by decide +kernel) (pa_cons (pv 0) (pa_cons (pe_bltn (v := .ty "tuple") (by rfl) B.tup (by decide +kernel) rfl) pa_nil))) (nomark _))
            (pw_or1 (pt_cmpR op_ne (pe_callB call_isi (by rfl) B.isi (by decide +kernel) (pa_cons (pv 1) (pa_cons (pe_bltn (v := .ty "list") (by rfl) B.lst (by decide +kernel) rfl) pa_nil))) (pe_callB call_isi (by rfl) B.isi (by decide +kernel) (pa_cons (pv 0) (pa_cons (pe_bltn (v := .ty "list") (by rfl) B.lst (by decide +kernel) rfl) pa_nil))) (nomark _)))))
          (pss_one (ps_ret pe_bl)) pss_nil)
        (pss_cons (ps_if (pt_cmpR op_ne (pe_callB call_len_seq (by rfl) B.len PySem.boot_len (pa_cons (pv 0) pa_nil)) (pe_callB call_len_seq (by rfl) B.len PySem.boot_len (pa_cons (pv 1) pa_nil)) (nomark _)) (pss_one (ps_ret pe_bl)) pss_nil)
        (pss_one (ps_ret (pe_callB (cr_all rfl) (by rfl) B.all (by decide +kernel) (pa_cons (pe_lc (own := [("_law_k", 2)]) (g := gName 2) (tt := tYes) rfl scLK.nd (pi_range1 rfl B.rng (pa_cons (pe_callB call_len_seq (by rfl) B.len PySem.boot_len (pa_cons (pv 1) pa_nil)) pa_nil))
          (blkOk_by (N := ["_law_found", "_law_due", "_law_k"]) (sc := defScope sLK) (by decide +kernel)) (fun _ _ _ _ _ => pg_name (i := 2) scLK.nd rfl (Or.inl rfl)) (fun _ _ _ _ _ => pts_nil)
          (fun _ _ _ _ _ => pe_call G hr rfl fm fk fb .nil pass0 (pa_cons (pe_ix (r := rIx K) ix_seq (pv 0) (pv 2) (fun _ _ => rfl)) (pa_cons (pe_ix (r := rIx K) ix_seq (pv 1) (pv 2) (fun _ _ => rfl)) pa_nil)))) pa_nil))))))))), ?_⟩
      have q0 := q H (Same.refl H)
      cases hv with
      | non =>
        exact ⟨.non, rfl, rfl, true, rfl, iteT ⟨.non, rfl, rfl, q0⟩⟩
      | bl b =>
        refine ⟨.bl b, rfl, rfl, _, rfl, iteF ⟨.bl b, rfl, .bl b, .ty "bool", .type "bool", .type "bool", true, rfl, .ty _, .base (.bl b), kit_ty (by decide +kernel), _, rfl, iteT ?_⟩⟩
        refine ⟨.bl b, rfl, .bl b, .ty "bool", .type "bool", .type "bool", true, rfl, .ty _, .base (.bl b), kit_ty (by decide +kernel), true, rfl, iteT ⟨_, rfl, _, rfl, rfl, ?_⟩⟩
        rw [decide_eq_true rfl]
        exact q0
      | int i =>
        refine ⟨.int i, rfl, rfl, _, rfl, iteF ⟨.int i, rfl, .int i, .ty "bool", .type "int", .type "bool", false, rfl, .ty _, .base (.int i), kit_ty (by decide +kernel), _, rfl, iteF ?_⟩⟩
        refine ⟨.int i, rfl, .int i, .ty "int", .type "int", .type "int", true, rfl, .ty _, .base (.int i), kit_ty (by decide +kernel), _, rfl, iteT ?_⟩
        refine ⟨.int i, rfl, i, rfl, true, rfl, iteT ⟨_, rfl, _, rfl, rfl, ?_⟩⟩
        rw [decide_eq_true rfl]
        exact q0
      | str x =>
        refine ⟨.str x, rfl, rfl, _, rfl, iteF ⟨.str x, rfl, .str x, .ty "bool", .type "str", .type "bool", false, rfl, .ty _, .base (.str x), kit_ty (by decide +kernel), _, rfl, iteF ?_⟩⟩
        refine ⟨.str x, rfl, .str x, .ty "int", .type "str", .type "int", false, rfl, .ty _, .base (.str x), kit_ty (by decide +kernel), _, rfl, iteF ?_⟩
        refine ⟨.str x, rfl, .str x, .ty "str", .type "str", .type "str", true, rfl, .ty _, .base (.str x), kit_ty (by decide +kernel), _, rfl, iteT ?_⟩
        refine ⟨.str x, rfl, .str x, .ty "str", .type "str", .type "str", true, rfl, .ty _, .base (.str x), kit_ty (by decide +kernel), true, rfl, iteT ⟨_, rfl, _, rfl, rfl, ?_⟩⟩
        rw [decide_eq_true rfl]
        exact q0
      | @lst m a b xs ys ha hb hl hz hi =>
        refine ⟨.ref b, rfl, rfl, _, rfl, iteF ⟨.ref b, rfl, .ref b, .ty "bool", .type "list", .type "bool", false, rfl, .ty _, ty_list hb, kit_ty (by decide +kernel), _, rfl, iteF ?_⟩⟩
        refine ⟨.ref b, rfl, .ref b, .ty "int", .type "list", .type "int", false, rfl, .ty _, ty_list hb, kit_ty (by decide +kernel), _, rfl, iteF ?_⟩
        refine ⟨.ref b, rfl, .ref b, .ty "str", .type "list", .type "str", false, rfl, .ty _, ty_list hb, kit_ty (by decide +kernel), _, rfl, iteF ?_⟩
        refine ⟨.ref b, rfl, .ref b, .ty "tuple", .type "list", .type "tuple", false, rfl, .ty _, ty_list hb, kit_ty (by decide +kernel), .ref a, rfl, .ref a, .ty "tuple", .type "list", .type "tuple", false, rfl, .ty _, ty_list ha, kit_ty (by decide +kernel), rfl, _, rfl, iteF ?_⟩
        refine ⟨.ref b, rfl, .ref b, .ty "list", .type "list", .type "list", true, rfl, .ty _, ty_list hb, kit_ty (by decide +kernel), .ref a, rfl, .ref a, .ty "list", .type "list", .type "list", true, rfl, .ty _, ty_list ha, kit_ty (by decide +kernel), rfl, _, rfl, iteF ?_⟩
        refine ⟨.ref a, rfl, a, xs, rfl, .inl ha, .ref b, rfl, b, ys, rfl, .inl hb, rfl, _, rfl, ?_⟩
        rw [hl, decide_eq_true rfl]
        refine iteF ⟨.ref b, rfl, b, ys, rfl, .inl hb, (ys.length : Int), rfl, by omega, by omega, fun D nD => ?_⟩
        refine lc_range (lo := 0) (n := ys.length) (fun i H2 => Same H H2 ∧ H2 D = some (.lst ((List.replicate i true).map V.bl))) ⟨same_new nD, upd_same⟩ (fun i H2 hlt h => ?_) (fun H2 h => ?_)
        · obtain ⟨s2, h2⟩ := h
          have hx : xs[i]? = some (xs[i]'(by omega)) := List.getElem?_eq_getElem (by omega)
          have hy : ys[i]? = some ys[i] := List.getElem?_eq_getElem hlt
          have e0 : (0 + (i : Int)) = ((i : Nat) : Int) := Int.zero_add _
          refine ⟨rfl, .ref a, rfl, .int (0 + (i : Int)), rfl, .inl ⟨a, xs, 0 + (i : Int), _, rfl, rfl, s2.seq ha, at_of e0 hx, .ref b, rfl, .int (0 + (i : Int)), rfl, .inl ⟨b, ys, 0 + (i : Int), _, rfl, rfl, s2.seq hb, at_of e0 hy, _, _, rfl, (hi i _ _ hx hy).same s2, fun H3 s3 => ⟨_, s3 _ _ h2, ?_, same_put (s2.trans s3) nD, ?_⟩⟩⟩⟩
          · rw [List.length_map, List.length_replicate]
            exact Nat.lt_of_le_of_lt (by omega : i ≤ 1001) (by decide)
          · rw [upd_same, List.replicate_succ', List.map_append]
            rfl
        · obtain ⟨s2, h2⟩ := h
          refine ⟨D, List.replicate ys.length true, rfl, SqL.of h2, ?_⟩
          rw [all_true]
          exact q H2 s2
      | @tup m a b xs ys ha hb hl hz hi =>
        refine ⟨.ref b, rfl, rfl, _, rfl, iteF ⟨.ref b, rfl, .ref b, .ty "bool", .type "tuple", .type "bool", false, rfl, .ty _, ty_tup hb, kit_ty (by decide +kernel), _, rfl, iteF ?_⟩⟩
        refine ⟨.ref b, rfl, .ref b, .ty "int", .type "tuple", .type "int", false, rfl, .ty _, ty_tup hb, kit_ty (by decide +kernel), _, rfl, iteF ?_⟩
        refine ⟨.ref b, rfl, .ref b, .ty "str", .type "tuple", .type "str", false, rfl, .ty _, ty_tup hb, kit_ty (by decide +kernel), _, rfl, iteF ?_⟩
        refine ⟨.ref b, rfl, .ref b, .ty "tuple", .type "tuple", .type "tuple", true, rfl, .ty _, ty_tup hb, kit_ty (by decide +kernel), .ref a, rfl, .ref a, .ty "tuple", .type "tuple", .type "tuple", true, rfl, .ty _, ty_tup ha, kit_ty (by decide +kernel), rfl, _, rfl, iteF ?_⟩
        refine ⟨.ref b, rfl, .ref b, .ty "list", .type "tuple", .type "list", false, rfl, .ty _, ty_tup hb, kit_ty (by decide +kernel), .ref a, rfl, .ref a, .ty "list", .type "tuple", .type "list", false, rfl, .ty _, ty_tup ha, kit_ty (by decide +kernel), rfl, _, rfl, iteF ?_⟩
        refine ⟨.ref a, rfl, a, xs, rfl, .inr ha, .ref b, rfl, b, ys, rfl, .inr hb, rfl, _, rfl, ?_⟩
        rw [hl, decide_eq_true rfl]
        refine iteF ⟨.ref b, rfl, b, ys, rfl, .inr hb, (ys.length : Int), rfl, by omega, by omega, fun D nD => ?_⟩
        refine lc_range (lo := 0) (n := ys.length) (fun i H2 => Same H H2 ∧ H2 D = some (.lst ((List.replicate i true).map V.bl))) ⟨same_new nD, upd_same⟩ (fun i H2 hlt h => ?_) (fun H2 h => ?_)
        · obtain ⟨s2, h2⟩ := h
          have hx : xs[i]? = some (xs[i]'(by omega)) := List.getElem?_eq_getElem (by omega)
          have hy : ys[i]? = some ys[i] := List.getElem?_eq_getElem hlt
          have e0 : (0 + (i : Int)) = ((i : Nat) : Int) := Int.zero_add _
          refine ⟨rfl, .ref a, rfl, .int (0 + (i : Int)), rfl, .inr (.inl ⟨a, xs, 0 + (i : Int), _, rfl, rfl, Same.tup s2 ha, at_of e0 hx, .ref b, rfl, .int (0 + (i : Int)), rfl, .inr (.inl ⟨b, ys, 0 + (i : Int), _, rfl, rfl, Same.tup s2 hb, at_of e0 hy, _, _, rfl, (hi i _ _ hx hy).same s2, fun H3 s3 => ⟨_, s3 _ _ h2, ?_, same_put (s2.trans s3) nD, ?_⟩⟩)⟩)⟩
          · rw [List.length_map, List.length_replicate]
            exact Nat.lt_of_le_of_lt (by omega : i ≤ 1001) (by decide)
          · rw [upd_same, List.replicate_succ', List.map_append]
            rfl
        · obtain ⟨s2, h2⟩ := h
          refine ⟨D, List.replicate ys.length true, rfl, SqL.of h2, ?_⟩
          rw [all_true]
          exact q H2 s2
end
end K04

set_option Elab.async false
set_option linter.all false
set_option maxRecDepth 100000
set_option maxHeartbeats 4000000
namespace K04
open PySem PySem.Spec PyProof.Rows L2 Pw TL
section
variable {P : Program} {w : World} {K : PySem.W.Frag} {mg : Str → Option Value} {base : Heap}
theorem pure_ok {x : Str} (h : Pw.Pure (tl x)) : PyData.strOk x = true := by
  unfold PyData.strOk
  rw [Array.all_eq_true_iff_forall_mem]
  intro c hc
  have h2 := h c (Array.mem_toList_iff.mpr hc)
  rcases h2 with rfl | rfl <;> decide
theorem word_of {x : Str} (h : Pw.Pure (tl x)) (h1 : 1 ≤ (tl x).length) (h5 : (tl x).length ≤ 5) : wordB x = true := by
  unfold wordB
  rw [strange_none h, decide_eq_true ⟨h1, h5⟩]
  rfl
theorem eqV_str (a b : Str) : eqV (.str a) (.str b) = true ↔ a = b := by
  show (a == b) = true ↔ a = b
  exact beq_iff_eq
theorem inV_str (x : Str) (xs : List Str) : inV (.str x) (xs.map V.str) = true ↔ x ∈ xs := by
  unfold inV
  rw [List.any_eq_true]
  constructor
  · rintro ⟨y, h1, h2⟩
    obtain ⟨z, h3, rfl⟩ := List.mem_map.mp h1
    have := (eqV_str z x).mp h2
    rw [← this]
    exact h3
  · intro h
    exact ⟨.str x, List.mem_map.mpr ⟨x, h, rfl⟩, (eqV_str x x).mpr rfl⟩
/-! _law_word -/
abbrev sWD : Stmt := topS 24
theorem scWD : FnScope ["_law_draw"] ["_law_draw"] (defScope sWD) := ⟨rfl, rfl, rfl, by decide +kernel, rfl, by decide +kernel, by decide +kernel⟩
def spWD : Sp := fun vs H Q _ => ∃ (p q : Addr) (ns : List Int), vs = [.ref p] ∧ Dr p q ns H ∧ ∀ (x : Str) H', (tl x).length ≤ 5 → PyData.strOk x = true → wordB x = true → SameX p H H' → Dr p q ns H' → Q (.str x) H'
theorem Dr.nn {p q : Addr} {ns : List Int} {H : Hp} (h : Dr p q ns H) {a : Addr} (n : H a = none) : a ≠ p := fun e => by
  obtain ⟨_, _, _, _, hp, _⟩ := h
  rw [e, hp] at n
  cases n
theorem ok_wd {f fW : Addr} {fd fdW : FuncData} (F : Fun K "_law_word" "_law_word" sWD f fd) (R : PUOk P w K mg base) (GW : FnOk P w K mg base CX0 2 fW fdW ["_law_draw", "_law_many"] spRO) (wm : mg "_law_row" = some (.ref fW)) (wk : PySem.W.keepIn K (.ref fW) = true) (wb : Binds K fdW ["_law_draw", "_law_many"] []) :
    FnOk P w K mg base CX0 3 f fd ["_law_draw"] spWD := by
  obtain ⟨fR, fdR, G, gm, gk, gb⟩ := R.ex
  refine F.ok scWD (fun vs H Q E h => ?_) (fun cdv A outer s H vs Q E hr h => ?_)
  · obtain ⟨p, q, ns, rfl, _⟩ := h
    rfl
  · obtain ⟨p, q, ns, rfl, hD, k⟩ := h
    have hr1 : Room 1 _ := hr.mono (by decide)
    refine ⟨_, pss_one (ps_ret (pe_call GW hr rfl wm wk wb .nil pass0 (pa_cons (pv 0) (pa_cons (pe_op op_add pe_int (pe_call G hr1 rfl gm gk gb .nil pass0 (pa_cons (pv 0) (pa_cons (pe_ix ix_tup (pe_tup (pa_cons pe_int (pa_cons pe_int pa_nil))) (pe_call G hr1 rfl gm gk gb .nil pass0 (pa_cons (pv 0) (pa_cons pe_int pa_nil))) (fun _ _ => rfl)) pa_nil)))) pa_nil)))), ?_⟩
    refine ⟨.ref p, rfl, .ref p, rfl, by show 2 ≤ sizeLine; decide, fun T nT => ?_⟩
    have hD0 : Dr p q ns (upd H T (.tup [.int 3, .int 5])) := hD.same (same_new nT)
    have sx0 : SameX p H (upd H T (.tup [.int 3, .int 5])) := SameX.of (same_new nT)
    refine ⟨.ref p, rfl, p, q, ns, 2, rfl, by decide, by decide, hD0, fun v H1 v0 v1 sx1 hD1 => ?_⟩
    have hT : H1 T = some (.tup [.int 3, .int 5]) := sx1 _ _ upd_same (hD.nn nT)
    have hm : ∃ m : Int, atI [V.int 3, V.int 5] v = some (.int m) ∧ 0 < m ∧ m ≤ 5 := by
      have : v = 0 ∨ v = 1 := by omega
      rcases this with rfl | rfl
      · exact ⟨3, rfl, by decide, by decide⟩
      · exact ⟨5, rfl, by decide, by decide⟩
    obtain ⟨m, hm, m0, m5⟩ := hm
    refine ⟨T, _, v, .int m, rfl, rfl, .inl (.inl hT), hm, p, q, ns, m, rfl, m0, by omega, hD1, fun u H2 u0 u1 sx2 hD2 => ?_⟩
    have ev : (1 : Int) + u = (((1 + u).toNat : Nat) : Int) := by omega
    refine ⟨1, u, rfl, rfl, p, q, ns, (1 + u).toNat, ?_, by omega, hD2, fun x H3 hx hxl sx3 hD3 => ?_⟩
    · rw [← ev]
      rfl
    · exact k x H3 (by omega) (pure_ok hx) (word_of hx (by omega) (by omega)) (((sx0.trans sx1).trans sx2).trans sx3) hD3
theorem Dr.upd {p q l : Addr} {ns : List Int} {H : Hp} {o : HO} (h : Dr p q ns H) (n1 : l ≠ p) (n2 : l ≠ q) : Dr p q ns (L2.upd H l o) :=
  ⟨by rw [upd_ne n2.symm]; exact h.1, let ⟨a, b, c, e, r⟩ := h.2; ⟨a, b, c, by rw [upd_ne n1.symm]; exact e, r⟩⟩
/-! _law_words -/
abbrev sWS : Stmt := topS 25
theorem scWS : FnScope ["_law_draw", "_law_most", "_law_found", "_law_many", "_law_k", "_law_word_here"] ["_law_draw", "_law_most"] (defScope sWS) := ⟨rfl, rfl, rfl, by decide +kernel, rfl, by decide +kernel, by decide +kernel⟩
def Short (xs : List Str) : Prop := ∀ x ∈ xs, (tl x).length ≤ 1000 ∧ PyData.strOk x = true
def Good (xs : List Str) : Prop := xs.Nodup ∧ ∀ x ∈ xs, wordB x = true
def ShortG (xs : List Str) : Prop := Short xs ∧ Good xs
def spWS : Sp := fun vs H Q _ => ∃ (p q : Addr) (ns : List Int) (n : Nat), vs = [.ref p, .int (n : Nat)] ∧ n ≤ 20 ∧ Dr p q ns H ∧ ∀ (l : Addr) (xs : List Str) H', xs.length ≤ 6 → ShortG xs → H l = none → H' l = some (.lst (xs.map V.str)) → SameX p H H' → Dr p q ns H' → Q (.ref l) H'
theorem flat_strs (xs : List Str) : (xs.map V.str).all flatV = true := by
  induction xs with
  | nil => rfl
  | cons x r ih =>
    rw [List.map_cons, List.all_cons, ih]
    rfl
theorem ok_ws {f fW : Addr} {fd fdW : FuncData} (F : Fun K "_law_words" "_law_words" sWS f fd) (B : BN mg) (R : PUOk P w K mg base) (GW : FnOk P w K mg base CX0 3 fW fdW ["_law_draw"] spWD) (wm : mg "_law_word" = some (.ref fW)) (wk : PySem.W.keepIn K (.ref fW) = true) (wb : Binds K fdW ["_law_draw"] []) :
    FnOk P w K mg base CX0 4 f fd ["_law_draw", "_law_most"] spWS := by
  obtain ⟨fR, fdR, G, gm, gk, gb⟩ := R.ex
  refine F.ok scWS (fun vs H Q E h => ?_) (fun cdv A outer s H vs Q E hr h => ?_)
  · obtain ⟨p, q, ns, n, rfl, _⟩ := h
    rfl
  · obtain ⟨p, q, ns, n, rfl, hn, hD, k⟩ := h
    have hr1 : Room 1 _ := hr.mono (by decide)
    refine ⟨_, pss_cons (ps_set (i := 2) scWS.nd rfl (.inl rfl) (pe_lst pa_nil))
      (pss_cons (ps_set (i := 3) scWS.nd rfl (.inl rfl) (pe_op op_add (pe_call G hr1 rfl gm gk gb .nil pass0 (pa_cons (pv 0) (pa_cons (pe_op op_add (pv 1) pe_int) pa_nil)))
        (pe_op op_mul pe_int (pe_callTy call_int1 (by rfl) B.int (by decide +kernel) (pa_cons (pe_cmpR op_eq (pe_call G hr1 rfl gm gk gb .nil pass0 (pa_cons (pv 0) (pa_cons pe_int pa_nil))) pe_int (nomark _)) pa_nil)))))
      (pss_cons (ps_for PassesOwn.never rfl (pi_range1 rfl B.rng (pa_cons (pv 3) pa_nil)) (pg_name (i := 4) scWS.nd rfl (.inl rfl))
        (pss_cons (ps_set (i := 5) scWS.nd rfl (.inl rfl) (pe_call GW hr rfl wm wk wb .nil pass0 (pa_cons (pv 0) pa_nil)))
        (pss_one (ps_if (PW.pt (pw_and (pt_cmpR op_notIn_seq (pv 5) (pv 2) (by rfl)) (pw_and1 (pt_cmpR op_gt (pe_callB call_len_str (by rfl) B.len PySem.boot_len (pa_cons (pv 5) pa_nil)) pe_int (nomark _)))))
          (pss_one (ps_expr (pe_bm PySem.F.plainAttrs_list PySem.F.slot_list_append PySem.F.type_list_append mt_append (pv 2) (pa_cons (pv 5) pa_nil)))) pss_nil))))
      (pss_one (ps_ret (pe_slice sl_list (pv 2) po_none (po_some pe_int)))))), ?_⟩
    refine ⟨by show 0 ≤ sizeLine; decide, fun l nl => ?_⟩
    have lp : l ≠ p := hD.nn nl
    have hD0 : Dr p q ns (upd H l (.lst [])) := hD.same (same_new nl)
    refine ⟨.ref p, rfl, _, rfl, _, 1, rfl, rfl, p, q, ns, (n : Int) + 1, rfl, by omega, by omega, hD0, fun v H1 v0 v1 sx1 hD1 => ?_⟩
    refine ⟨.ref p, rfl, p, q, ns, 8, rfl, by decide, by decide, hD1, fun u H2 _ _ sx2 hD2 => ?_⟩
    obtain ⟨m, em, hm⟩ : ∃ m : Nat, v + 2 * (if decide (V.int u = V.int 0) = true then (1 : Int) else 0) = (m : Int) ∧ m ≤ 22 := by
      refine ⟨(v + 2 * (if decide (V.int u = V.int 0) = true then (1 : Int) else 0)).toNat, ?_, ?_⟩ <;> split <;> omega
    refine ⟨rfl, .inr ⟨_, rfl, 2, _, rfl, rfl, ?_, v, _, rfl, rfl, ?_⟩⟩
    · exact .inl ⟨by decide, by decide⟩
    dsimp only
    rw [em]
    have sx : SameX p (upd H l (.lst [])) H2 := sx1.trans sx2
    have nlp : upd H l (.lst []) l = some (.lst (([] : List Str).map V.str)) := upd_same
    refine ⟨_, rfl, (m : Int), rfl, by omega, by omega, for_range (lo := 0) (n := m) (fun i σ H3 => (∃ y4 y5, σ = [some (.ref p), some (.int (n : Nat)), some (.ref l), some (.int (m : Nat)), y4, y5]) ∧ Dr p q ns H3 ∧ (∃ xs : List Str, H3 l = some (.lst (xs.map V.str)) ∧ xs.length ≤ i ∧ ShortG xs) ∧ (∀ b o, H b = some o → b ≠ p → H3 b = some o))
      ⟨⟨none, none, rfl⟩, hD2, ⟨[], sx _ _ nlp lp, Nat.le_refl _, (fun x hx => nomatch hx), List.nodup_nil, fun x hx => nomatch hx⟩, fun b o e ne => sx b o ((same_new nl) b o e) ne⟩ (fun i σ H3 _ h => ?_) (fun σ H3 h => ?_)⟩
    · obtain ⟨⟨y4, y5, rfl⟩, hD3, ⟨xs, hl3, hxi, hxs⟩, fr⟩ := h
      refine ⟨.ref p, rfl, p, q, ns, rfl, hD3, fun x H4 hx hok4 hwx sx4 hD4 => ?_⟩
      have hl4 : H4 l = some (.lst (xs.map V.str)) := sx4 _ _ hl3 lp
      have hz : x.length ≤ sizeLine := by
        rw [len_tl]
        exact Nat.le_of_lt (small1000 (by omega))
      have out : (∃ y4 y5, [some (V.ref p), some (.int (n : Nat)), some (.ref l), some (.int (m : Nat)), some (.int (0 + (i : Int))), some (.str x)] = [some (V.ref p), some (.int (n : Nat)), some (.ref l), some (.int (m : Nat)), y4, y5]) ∧ Dr p q ns H4 ∧ (∃ xs : List Str, H4 l = some (.lst (xs.map V.str)) ∧ xs.length ≤ i + 1 ∧ ShortG xs) ∧ (∀ b o, H b = some o → b ≠ p → H4 b = some o) :=
        ⟨⟨_, _, rfl⟩, hD4, ⟨xs, hl4, by omega, hxs⟩, fun b o e ne => sx4 b o (fr b o e ne) ne⟩
      refine ⟨_, rfl, _, rfl, l, _, rfl, .inl (SqL.of hl4), rfl, flat_strs xs, _, rfl, ite2 (fun hni => ?_) (fun _ => iteF out)⟩
      have hni' : x ∉ xs := fun z => by
        have h1 := (inV_str x xs).mpr z
        have h2 : (!inV (.str x) (xs.map V.str)) = true := hni
        rw [h1] at h2
        cases h2
      refine ⟨_, rfl, x, rfl, hz, _, _, rfl, rfl, _, rfl, ite2 (fun _ => ?_) (fun _ => out)⟩
      refine ⟨.ref l, rfl, .inl ⟨rfl, _, SqL.of hl4⟩, _, rfl, l, _, _, rfl, rfl, hl4, ?_, ?_⟩
      · rw [List.length_map]
        exact small1000 (by omega)
      · refine ⟨⟨_, _, rfl⟩, ?_, ⟨xs ++ [x], ?_, ?_, ?_⟩, fun b o e ne => ?_⟩
        · exact hD4.upd lp (ne_of_none hD.1 nl).symm
        · rw [upd_same, List.map_append]
          rfl
        · rw [List.length_append]
          show xs.length + 1 ≤ i + 1
          omega
        · refine ⟨fun z hz2 => ?_, ?_, fun z hz2 => ?_⟩
          · rcases List.mem_append.mp hz2 with h | h
            · exact hxs.1 z h
            · rw [List.mem_singleton.mp h]
              exact ⟨by omega, hok4⟩
          · rw [List.nodup_append]
            refine ⟨hxs.2.1, List.nodup_cons.mpr ⟨(fun z => nomatch z), List.nodup_nil⟩, fun a ha b hb e => ?_⟩
            rw [List.mem_singleton.mp hb] at e
            exact hni' (e ▸ ha)
          · rcases List.mem_append.mp hz2 with h | h
            · exact hxs.2.2 z h
            · rw [List.mem_singleton.mp h]
              exact hwx
        · rw [upd_ne (ne_of_none e nl)]
          exact sx4 b o (fr b o e ne) ne
    · obtain ⟨⟨y4, y5, rfl⟩, hD3, ⟨xs, hl3, hxi, hxs⟩, fr⟩ := h
      refine ⟨.ref l, rfl, 6, rfl, l, _, rfl, SqL.of hl3, fun t nt => ?_⟩
      have ec : cutV (xs.map V.str) none (some 6) = (xs.take 6).map V.str := by
        unfold cutV
        rw [show HT.sIx (xs.map V.str).length (xs.map V.str).length (some 6) = min 6 (xs.map V.str).length from HT.sIx_nat _ _ 6]
        show List.take (min 6 (xs.map V.str).length - 0) (xs.map V.str) = _
        rw [Nat.sub_zero, List.map_take]
        exact (List.take_eq_take_min).symm
      rw [ec]
      have tH : H t = none := by
        cases e : H t with
        | none => rfl
        | some o =>
          by_cases ht : t = p
          · exact absurd ht (hD3.nn nt)
          · rw [fr t o e ht] at nt
            cases nt
      refine k t (xs.take 6) _ ?_ ⟨fun z hz => hxs.1 z (List.mem_of_mem_take hz), hxs.2.1.sublist (List.take_sublist _ _), fun z hz => hxs.2.2 z (List.mem_of_mem_take hz)⟩ tH upd_same ?_ (hD3.same (same_new nt))
      · rw [List.length_take]
        omega
      · exact SameX.new (fun b o e ne => fr b o e ne) nt
end
end K04

set_option Elab.async false
set_option linter.all false
set_option maxRecDepth 100000
set_option maxHeartbeats 4000000
namespace K04
open PySem PySem.Spec PyProof.Rows L2 Pw TL
section
variable {P : Program} {w : World} {K : PySem.W.Frag} {mg : Str → Option Value} {base : Heap}
/-- since H only the draw has moved on, and new things were made -/
structure Go (p q : Addr) (ns : List Int) (H H1 : Hp) : Prop where
  sx : SameX p H H1
  dr : Dr p q ns H1
theorem Go.refl {p q : Addr} {ns : List Int} {H : Hp} (h : Dr p q ns H) : Go p q ns H H := ⟨SameX.refl p H, h⟩
theorem Go.next {p q : Addr} {ns : List Int} {H H1 H2 : Hp} (g : Go p q ns H H1) (s : SameX p H1 H2) (d : Dr p q ns H2) : Go p q ns H H2 := ⟨g.sx.trans s, d⟩
theorem Go.new {p q T : Addr} {ns : List Int} {H H1 : Hp} {o : HO} (g : Go p q ns H H1) (n : H1 T = none) : Go p q ns H (upd H1 T o) := ⟨g.sx.new n, g.dr.same (same_new n)⟩
theorem Go.free {p q T : Addr} {ns : List Int} {H H1 : Hp} (g : Go p q ns H H1) (n : H1 T = none) : H T = none := by
  cases e : H T with
  | none => rfl
  | some o =>
    by_cases h : T = p
    · exact absurd h (g.dr.nn n)
    · rw [g.sx T o e h] at n
      cases n
theorem Go.keep {p q T : Addr} {ns : List Int} {H H1 : Hp} {o : HO} (g : Go p q ns H H1) (e : H T = some o) (n : T ≠ p) : H1 T = some o := g.sx T o e n
/-! _law_parts -/
abbrev sPA : Stmt := topS 26
theorem scPA : FnScope ["_law_draw", "_law_way", "_law_least", "_law_upper", "_law_bars", "_law_wide"] ["_law_draw"] (defScope sPA) := ⟨rfl, rfl, rfl, by decide +kernel, rfl, by decide +kernel, by decide +kernel⟩
/-- four parts as a tuple at T, its words as a tuple at t -/
def Parts (H : Hp) (T t : Addr) (xs : List Str) (lo : Int) (hi wd : Option Int) : Prop := H T = some (.tup [.ref t, .int lo, vI hi, vI wd]) ∧ H t = some (.tup (xs.map V.str))
def spPA (N : Nat) : Sp := fun vs H Q _ => ∃ (p q : Addr) (ns : List Int), vs = [.ref p] ∧ Dr p q ns H ∧ ∀ (T t : Addr) (xs : List Str) (lo : Int) (hi wd : Option Int) H', xs.length ≤ N → ShortG xs → sortedS xs = true → partBad xs lo hi wd = none → H T = none → H t = none → Parts H' T t xs lo hi wd → Go p q ns H H' → Q (.ref T) H'
theorem parts_ok {xs : List Str} {lo : Int} {hi wd : Option Int} (h6 : xs.length ≤ 6) (hg : Good xs) (l0 : 0 ≤ lo) (l4 : lo < 4) (hh : ∀ h, hi = some h → max 1 lo ≤ h ∧ h ≤ 7) (hw : ∀ k, wd = some k → 1 ≤ k ∧ k ≤ 4) : partBad xs lo hi wd = none := by
  have e1 : wordsB xs = true := by
    unfold wordsB
    rw [decide_eq_true h6, decide_eq_true ((cntD_nodup xs).mpr hg.1)]
    exact List.all_eq_true.mpr hg.2
  have e2 : lowB lo = true := decide_eq_true ⟨l0, by omega⟩
  have e3 : highB lo hi = true := by
    cases hi with
    | none => rfl
    | some h => exact decide_eq_true (hh h rfl)
  have e4 : spanB wd = true := by
    cases wd with
    | none => rfl
    | some h => exact decide_eq_true (hw h rfl)
  unfold partBad
  rw [if_pos e1, if_pos e2, if_pos e3, if_pos e4]
def inTup (ps : List Int) (v : Int) : Bool := inV (.int v) (ps.map V.int)
theorem flat_ints (xs : List Int) : (xs.map V.int).all flatV = true := by
  induction xs with
  | nil => rfl
  | cons x r ih =>
    rw [List.map_cons, List.all_cons, ih]
    rfl
theorem ok_pa {f fW : Addr} {fd fdW : FuncData} (F : Fun K "_law_parts" "_law_parts" sPA f fd) (B : BN mg) (ms : mg "sorted" = none) (R : PUOk P w K mg base) (GW : FnOk P w K mg base CX0 4 fW fdW ["_law_draw", "_law_most"] spWS) (wm : mg "_law_words" = some (.ref fW)) (wk : PySem.W.keepIn K (.ref fW) = true) (wb : Binds K fdW ["_law_draw", "_law_most"] []) :
    FnOk P w K mg base CX0 5 f fd ["_law_draw"] (spPA 6) := by
  obtain ⟨fR, fdR, G, gm, gk, gb⟩ := R.ex
  refine F.ok scPA (fun vs H Q E h => ?_) (fun cdv A outer s H vs Q E hr h => ?_)
  · obtain ⟨p, q, ns, rfl, _⟩ := h
    rfl
  · obtain ⟨p, q, ns, rfl, hD, k⟩ := h
    have hr1 : Room 1 _ := hr.mono (by decide)
    refine ⟨_, pss_cons (ps_set (i := 1) scPA.nd rfl (.inl rfl) (pe_call G hr1 rfl gm gk gb .nil pass0 (pa_cons (pv 0) (pa_cons pe_int pa_nil))))
      (C8.pss_cut (ps_set (i := 2) scPA.nd rfl (.inl rfl) (pe_ifExp (pt_cmpR op_in_seq (pv 1) (pe_tup (pa_cons pe_int (pa_cons pe_int (pa_cons pe_int (pa_cons pe_int (pa_cons pe_int pa_nil)))))) (by rfl)) (pe_call G hr1 rfl gm gk gb .nil pass0 (pa_cons (pv 0) (pa_cons pe_int pa_nil))) pe_int))
      (pss_cons (ps_set (i := 3) scPA.nd rfl (.inl rfl) pe_non)
      (C8.pss_cut (ps_if (PW.pt (pw_or (pt_cmpR op_in_seq (pv 1) (pe_tup (pa_cons pe_int (pa_cons pe_int (pa_cons pe_int pa_nil)))) (by rfl)) (pw_or1 (PW.pt (pw_and (pt_cmpR op_in_seq (pv 1) (pe_tup (pa_cons pe_int (pa_cons pe_int (pa_cons pe_int pa_nil)))) (by rfl))
          (pw_and1 (pt_cmpR op_eq (pe_call G hr1 rfl gm gk gb .nil pass0 (pa_cons (pv 0) (pa_cons pe_int pa_nil))) pe_int (nomark _))))))))
        (pss_one (ps_set (i := 3) scPA.nd rfl (.inl rfl) (pe_op op_add (pe_callB (call_max2 rfl) (by rfl) B.max (by decide +kernel) (pa_cons pe_int (pa_cons (pv 2) pa_nil))) (pe_call G hr1 rfl gm gk gb .nil pass0 (pa_cons (pv 0) (pa_cons (pe_op op_sub pe_int (pe_callB (call_max2 rfl) (by rfl) B.max (by decide +kernel) (pa_cons pe_int (pa_cons (pv 2) pa_nil)))) pa_nil)))))) pss_nil)
      (C8.pss_cut (ps_set (i := 4) scPA.nd rfl (.inl rfl) (pe_ifExp (pt_cmpR op_in_seq (pv 1) (pe_tup (pa_cons pe_int (pa_cons pe_int (pa_cons pe_int (pa_cons pe_int (pa_cons pe_int pa_nil)))))) (by rfl)) (pe_call GW hr rfl wm wk wb .nil pass0 (pa_cons (pv 0) (pa_cons pe_int pa_nil))) (pe_lst pa_nil)))
      (C8.pss_cut (ps_set (i := 5) scPA.nd rfl (.inl rfl) (pe_ifExp (pt_cmpR op_in_seq (pv 1) (pe_tup (pa_cons pe_int (pa_cons pe_int (pa_cons pe_int (pa_cons pe_int pa_nil))))) (by rfl)) (pe_op op_add pe_int (pe_call G hr1 rfl gm gk gb .nil pass0 (pa_cons (pv 0) (pa_cons pe_int pa_nil)))) pe_non))
      (pss_one (ps_ret (pe_tup (pa_cons (pe_callTy call_tuple_of (by rfl) B.tup (by decide +kernel) (pa_cons (pe_callB cr_sortedS (by rfl) ms (by decide +kernel) (pa_cons (pv 4) pa_nil)) pa_nil)) (pa_cons (pv 2) (pa_cons (pv 3) (pa_cons (pv 5) pa_nil)))))))))))), ?_⟩
    refine ⟨.ref p, rfl, p, q, ns, 10, rfl, by decide, by decide, hD, fun v H1 v0 v1 sx1 hD1 => ?_⟩
    have g1 := (Go.refl hD).next sx1 hD1
    refine ⟨fun σ H2 => (∃ lo : Int, 0 ≤ lo ∧ lo < 4 ∧ σ = [some (.ref p), some (.int v), some (.int lo), none, none, none]) ∧ Go p q ns H H2, ?_, ?_⟩
    · refine ⟨.int v, rfl, by show 5 ≤ sizeLine; decide, fun T nT => ?_⟩
      have g2 := g1.new (o := .tup [.int 0, .int 1, .int 2, .int 8, .int 9]) nT
      refine ⟨T, _, rfl, .inr (.inl (.inl upd_same)), rfl, flat_ints [0, 1, 2, 8, 9], _, rfl, ite2 (fun _ => ?_) (fun _ => ?_)⟩
      · exact ⟨.ref p, rfl, p, q, ns, 4, rfl, by decide, by decide, g2.dr, fun u H3 u0 u1 sx3 hD3 => ⟨⟨u, u0, u1, rfl⟩, g2.next sx3 hD3⟩⟩
      · exact ⟨⟨0, by decide, by decide, rfl⟩, g2⟩
    rintro σ H2 ⟨⟨lo, lo0, lo4, rfl⟩, g2⟩
    refine ⟨fun σ H3 => (∃ hi : Option Int, (∀ h, hi = some h → max 1 lo ≤ h ∧ h ≤ 7) ∧ σ = [some (.ref p), some (.int v), some (.int lo), some (vI hi), none, none]) ∧ Go p q ns H H3, ?_, ?_⟩
    · refine ⟨.int v, rfl, by show 3 ≤ sizeLine; decide, fun T nT => ?_⟩
      have g3 := g2.new (o := .tup [.int 0, .int 2, .int 6]) nT
      refine ⟨T, _, rfl, .inr (.inl (.inl upd_same)), rfl, flat_ints [0, 2, 6], _, rfl, ite2 (fun _ => ?_) (fun _ => ?_)⟩
      · refine iteT ?_
        refine ⟨_, rfl, 1, lo, rfl, .ref p, rfl, _, rfl, 1, lo, rfl, 8, _, rfl, rfl, p, q, ns, _, rfl, ?_, ?_, g3.dr, fun u H5 u0 u1 sx5 hD5 => ⟨_, _, rfl, rfl, ⟨some _, (fun h e => ?_), rfl⟩, g3.next sx5 hD5⟩⟩
        · split <;> omega
        · split <;> omega
        · rw [← Option.some.inj e]
          split at u1 <;> split <;> omega
      · refine ⟨.int v, rfl, by show 3 ≤ sizeLine; decide, fun T2 nT2 => ?_⟩
        have g4 := g3.new (o := .tup [.int 3, .int 8, .int 9]) nT2
        refine ⟨T2, _, rfl, .inr (.inl (.inl upd_same)), rfl, flat_ints [3, 8, 9], _, rfl, ite2 (fun _ => ?_) (fun _ => iteF ⟨⟨none, (fun h e => nomatch e), rfl⟩, g4⟩)⟩
        refine ⟨.ref p, rfl, p, q, ns, 2, rfl, by decide, by decide, g4.dr, fun z H4 _ _ sx4 hD4 => ⟨rfl, _, rfl, ite2 (fun _ => ?_) (fun _ => ⟨⟨none, (fun h e => nomatch e), rfl⟩, g4.next sx4 hD4⟩)⟩⟩
        have g5 := g4.next sx4 hD4
        refine ⟨_, rfl, 1, lo, rfl, .ref p, rfl, _, rfl, 1, lo, rfl, 8, _, rfl, rfl, p, q, ns, _, rfl, ?_, ?_, g5.dr, fun u H5 u0 u1 sx5 hD5 => ⟨_, _, rfl, rfl, ⟨some _, (fun h e => ?_), rfl⟩, g5.next sx5 hD5⟩⟩
        · split <;> omega
        · split <;> omega
        · rw [← Option.some.inj e]
          split at u1 <;> split <;> omega
    rintro σ H3 ⟨⟨hi, hhi, rfl⟩, g3⟩
    refine ⟨fun σ H4 => (∃ (l : Addr) (xs : List Str), σ = [some (.ref p), some (.int v), some (.int lo), some (vI hi), some (.ref l), none] ∧ H4 l = some (.lst (xs.map V.str)) ∧ l ≠ p ∧ xs.length ≤ 6 ∧ ShortG xs) ∧ Go p q ns H H4, ?_, ?_⟩
    · refine ⟨.int v, rfl, by show 5 ≤ sizeLine; decide, fun T nT => ?_⟩
      have g4 := g3.new (o := .tup [.int 2, .int 3, .int 4, .int 7, .int 9]) nT
      refine ⟨T, _, rfl, .inr (.inl (.inl upd_same)), rfl, flat_ints [2, 3, 4, 7, 9], _, rfl, ite2 (fun _ => ?_) (fun _ => ?_)⟩
      · exact ⟨.ref p, rfl, p, q, ns, 4, rfl, by decide, g4.dr, fun l xs H5 h6 hs nl hl sx5 hD5 => ⟨⟨l, xs, rfl, hl, g4.dr.nn nl, h6, hs⟩, g4.next sx5 hD5⟩⟩
      · exact ⟨by show 0 ≤ sizeLine; decide, fun l nl => ⟨⟨l, [], rfl, upd_same, g4.dr.nn nl, by decide, (fun x hx => nomatch hx), List.nodup_nil, fun x hx => nomatch hx⟩, g4.new nl⟩⟩
    rintro σ H4 ⟨⟨l, xs, rfl, hl, lp, h6, hs⟩, g4⟩
    refine ⟨fun σ H5 => (∃ wd : Option Int, (∀ k, wd = some k → 1 ≤ k ∧ k ≤ 4) ∧ σ = [some (.ref p), some (.int v), some (.int lo), some (vI hi), some (.ref l), some (vI wd)]) ∧ H5 l = some (.lst (xs.map V.str)) ∧ Go p q ns H H5, ?_, ?_⟩
    · refine ⟨.int v, rfl, by show 4 ≤ sizeLine; decide, fun T nT => ?_⟩
      have g5 := g4.new (o := .tup [.int 5, .int 7, .int 8, .int 9]) nT
      have hl5 : upd H4 T (.tup [.int 5, .int 7, .int 8, .int 9]) l = some (.lst (xs.map V.str)) := same_new nT _ _ hl
      refine ⟨T, _, rfl, .inr (.inl (.inl upd_same)), rfl, flat_ints [5, 7, 8, 9], _, rfl, ite2 (fun _ => ?_) (fun _ => ?_)⟩
      · exact ⟨.ref p, rfl, p, q, ns, 4, rfl, by decide, by decide, g5.dr, fun u H6 u0 u1 sx6 hD6 => ⟨_, _, rfl, rfl, ⟨some _, (fun h e => by rw [← Option.some.inj e]; omega), rfl⟩, sx6 _ _ hl5 lp, g5.next sx6 hD6⟩⟩
      · exact ⟨⟨none, (fun h e => nomatch e), rfl⟩, hl5, g5⟩
    rintro σ H5 ⟨⟨wd, hwd, rfl⟩, hl5, g5⟩
    refine ⟨_, rfl, l, xs, rfl, SqL.of hl5, by omega, fun ys a hp hsrt na => ?_⟩
    have g6 := g5.new (o := .lst (ys.map V.str)) na
    refine ⟨a, _, rfl, .inl ⟨SqL.of upd_same, fun t nt => ?_⟩⟩
    have g7 := g6.new (o := .tup (ys.map V.str)) nt
    refine ⟨_, rfl, _, rfl, _, rfl, by show 4 ≤ sizeLine; decide, fun T nT => ?_⟩
    have e : t ≠ T := ne_of_none upd_same nT
    have hgy : Good ys := ⟨hp.nodup_iff.mpr hs.2.1, fun z hz => hs.2.2 z (hp.mem_iff.mp hz)⟩
    refine k T t ys lo hi wd _ ?_ ⟨fun z hz => hs.1 z (hp.mem_iff.mp hz), hgy⟩ hsrt (parts_ok (by rw [hp.length_eq]; exact h6) hgy lo0 lo4 hhi hwd) (g7.free nT) (g6.free nt) ⟨upd_same, ?_⟩ (g7.new nT)
    · rw [hp.length_eq]
      exact h6
    · rw [upd_ne e, upd_same]
end
end K04

set_option Elab.async false
set_option linter.all false
set_option maxRecDepth 100000
set_option maxHeartbeats 4000000
namespace K04
open PySem PySem.Spec PyProof.Rows L2 Pw TL
section
variable {P : Program} {w : World} {K : PySem.W.Frag} {mg : Str → Option Value} {base : Heap}
/-- a def as its callers have it -/
structure UseD (P : Program) (w : World) (K : PySem.W.Frag) (mg : Str → Option Value) (base : Heap) (CX : CXT) (k : Nat) (x : Str) (ps : List Str) (sp : Sp) : Prop where
  ex : ∃ (f : Addr) (fd : FuncData), FnOk P w K mg base CX k f fd ps sp ∧ mg x = some (.ref f) ∧ PySem.W.keepIn K (.ref f) = true ∧ Binds K fd ps []
/-- a method as its callers have it -/
structure UseM (P : Program) (w : World) (K : PySem.W.Frag) (mg : Str → Option Value) (base : Heap) (CX : CXT) (k : Nat) (R : Addr) (x : Str) (ps : List Str) (sp : Sp) : Prop where
  ex : ∃ (f : Addr) (fd : FuncData), FnOk P w K mg base CX k f fd ps sp ∧ Meth K R x f ∧ Binds K fd ps []
/-- what a rule tells of itself -/
structure RuleM (P : Program) (w : World) (K : PySem.W.Frag) (mg : Str → Option Value) (base : Heap) (R : Addr) : Prop where
  c : RuleC K R
  words : UseM P w K mg base CX0 1 R "words" ["self"] (spMW R)
  low : UseM P w K mg base CX0 1 R "low" ["self"] (spMO R fun lo _ _ => .int lo)
  high : UseM P w K mg base CX0 1 R "high" ["self"] (spMO R fun _ hi _ => vI hi)
  span : UseM P w K mg base CX0 1 R "span" ["self"] (spMO R fun _ _ sp => vI sp)
theorem lk_strs {H : Hp} {n : Nat} {r g : Addr} {l : List Str} (h1 : H r = some (.lst (l.map V.str))) (h2 : H g = some (.lst (l.map V.str))) (hl : l.length ≤ 1001) : Lk K H (n + 1) (.ref r) (.ref g) :=
  .lst (SqL.of h1) (SqL.of h2) rfl (by rw [List.length_map]; exact hl) (fun i a b ha hb => by
    rw [ha] at hb
    obtain rfl : a = b := Option.some.inj hb
    rw [List.getElem?_map] at ha
    cases e : l[i]? with
    | none =>
      rw [e] at ha
      cases ha
    | some z =>
      rw [e] at ha
      obtain rfl : V.str z = a := Option.some.inj ha
      exact .str z)
theorem lk_vI {H : Hp} {n : Nat} (o : Option Int) : Lk K H n (vI o) (vI o) := by
  cases o with
  | none => exact .non
  | some i => exact .int i
abbrev dR : List V := [.non, .int 0, .non, .non]
abbrev psR : List Str := ["self", "words", "low", "high", "span"]
/-- how a rule is made -/
structure RMk (P : Program) (w : World) (K : PySem.W.Frag) (mg : Str → Option Value) (base : Heap) (R C : Addr) : Prop where
  ex : ∃ (f : Addr) (fd : FuncData), FnOk P w K mg base (L2.CX P w) 5 f fd psR (spRI R C) ∧ Mk K R f ∧ FunD K "__init__" "Rule.__init__" (defArgs sRI) (defBody sRI) (defScope sRI) dR [] f fd
  mgR : mg "Rule" = some (.ref R)
theorem bindsAll {f : Addr} {fd : FuncData} (F : FunD K "__init__" "Rule.__init__" (defArgs sRI) (defBody sRI) (defScope sRI) dR [] f fd) : ∃ ds, Vals ([] : List V) ds ∧ Binds K fd psR ds :=
  F.binds1 5 4 (by simp) rfl (fun T kV doc pm an cdv ct us its l1 l2 => match us, its, l1, l2 with | [_, _, _, _, _], [_, _, _, _], _, _ => ⟨_, rfl, rfl⟩)
theorem made_same {H2 H' : Hp} {x dx R : Addr} (nx : H2 x = none) (nd : H2 dx = none) (fr : ∀ b o, b ≠ x → upd (upd H2 dx (.own x)) x (.ins R dx []) b = some o → H' b = some o) : Same H2 H' := fun b o e => by
  have h1 : b ≠ x := ne_of_none e nx
  have h2 : b ≠ dx := ne_of_none e nd
  refine fr b o h1 ?_
  rw [upd_ne h1, upd_ne h2]
  exact e
theorem made_free {H2 : Hp} {x dx R pw : Addr} (np : upd (upd H2 dx (.own x)) x (.ins R dx []) pw = none) : H2 pw = none := by
  by_cases h1 : pw = x
  · rw [h1, upd_same] at np
    cases np
  · rw [upd_ne h1] at np
    by_cases h2 : pw = dx
    · rw [h2, upd_same] at np
      cases np
    · rw [upd_ne h2] at np
      exact np
/-! _law_rule -/
abbrev sRL : Stmt := topS 27
theorem scRL : FnScope ["_law_r"] ["_law_r"] (defScope sRL) := ⟨rfl, rfl, rfl, by decide +kernel, rfl, by decide +kernel, by decide +kernel⟩
theorem Parts.same {H H1 : Hp} {T t : Addr} {xs : List Str} {lo : Int} {hi wd : Option Int} (h : Parts H T t xs lo hi wd) (s : Same H H1) : Parts H1 T t xs lo hi wd := ⟨s _ _ h.1, s _ _ h.2⟩
def spRL (R : Addr) : Sp := fun vs H Q _ => ∃ (T t : Addr) (xs : List Str) (lo : Int) (hi wd : Option Int), vs = [.ref T] ∧ Parts H T t xs lo hi wd ∧ xs.length ≤ 60 ∧ Short xs ∧ partBad xs lo hi wd = none ∧
  ∀ (r pw : Addr) (ys : List Str) H', Same H H' → H r = none → H pw = none → RuleAt H' R r pw ys lo hi wd → ys.Perm xs → sortedS ys = true → Q (.ref r) H'
theorem ok_rl {f R C : Addr} {fd : FuncData} (F : Fun K "_law_rule" "_law_rule" sRL f fd) (B : BN mg) (M : RMk P w K mg base R C) : FnOk P w K mg base CX0 7 f fd ["_law_r"] (spRL R) := by
  obtain ⟨fI, fdI, GI, MI, FI⟩ := M.ex
  have mR := M.mgR
  obtain ⟨dsA, vA, bA⟩ := bindsAll FI
  refine F.ok scRL (fun vs H Q E h => ?_) (fun cdv A outer s H vs Q E hr h => ?_)
  · obtain ⟨T, t, xs, lo, hi, wd, rfl, _⟩ := h
    rfl
  · obtain ⟨T, t, xs, lo, hi, wd, rfl, ⟨hT, ht⟩, h60, hs, hpb, k⟩ := h
    refine ⟨_, pss_one (ps_ret (pe_make MI GI hr rfl mR bA vA passL (pa_cons (pe_callTy call_list_of (by rfl) B.lst (by decide +kernel) (pa_cons (pe_ix ix_tup (pv 0) pe_int (fun _ _ => rfl)) pa_nil)) (pa_cons (pe_ix ix_tup (pv 0) pe_int (fun _ _ => rfl)) (pa_cons (pe_ix ix_tup (pv 0) pe_int (fun _ _ => rfl)) (pa_cons (pe_ix ix_tup (pv 0) pe_int (fun _ _ => rfl)) pa_nil)))))), ?_⟩
    have hT1 : SqT K H T [.ref t, .int lo, vI hi, vI wd] := .inl (.inl hT)
    refine ⟨.ref T, rfl, T, _, 0, .ref t, rfl, rfl, hT1, rfl, t, _, rfl, .inr (.inl (.inl ht)), fun l nl => ?_⟩
    have s1 : Same H (upd H l (.lst (xs.map V.str))) := same_new nl
    have hT2 := Same.tup s1 hT1
    refine ⟨.ref T, rfl, T, _, 1, .int lo, rfl, rfl, hT2, rfl, .ref T, rfl, T, _, 2, vI hi, rfl, rfl, hT2, rfl, .ref T, rfl, T, _, 3, vI wd, rfl, rfl, hT2, rfl, fun x dx nx nd ne => ?_⟩
    have sI : Same (upd H l (.lst (xs.map V.str))) (upd (upd (upd H l (.lst (xs.map V.str))) dx (.own x)) x (.ins R dx [])) := (same_new nd).trans (same_new (by rw [upd_ne (fun z => ne z.symm)]; exact nx))
    refine ⟨x, dx, .ref l, xs, lo, hi, wd, rfl, upd_same, .inr ⟨l, rfl, sI _ _ upd_same⟩, h60, fun z hz => (hs z hz).1, fun _ ys pw H' hpm hsr npw fr hR => ⟨rfl, ?_⟩, fun s e => ?_⟩
    · exact k x pw ys H' (s1.trans (made_same nx nd fr)) (s1.free nx) (s1.free (made_free npw)) hR hpm hsr
    · rw [hpb] at e
      cases e
/-! _law_same_rule -/
abbrev sSR : Stmt := topS 28
theorem scSR : FnScope ["_law_made", "_law_r", "_law_told"] ["_law_made", "_law_r"] (defScope sSR) := ⟨rfl, rfl, rfl, by decide +kernel, rfl, by decide +kernel, by decide +kernel⟩
def spSR (R : Addr) : Sp := fun vs H Q _ => ∃ (r p T t : Addr) (ys xs : List Str) (lo : Int) (hi wd : Option Int), vs = [.ref r, .ref T] ∧ RuleAt H R r p ys lo hi wd ∧ ys.Perm xs ∧ sortedS ys = true ∧ Parts H T t xs lo hi wd ∧ xs.length ≤ 60 ∧ ∀ H', Same H H' → Q (.bl true) H'
theorem ok_sr {f R fL : Addr} {fd fdL : FuncData} (F : Fun K "_law_same_rule" "_law_same_rule" sSR f fd) (M : RuleM P w K mg base R) (ms : mg "sorted" = none)
    (GL : FnOk P w K mg base CX0 4 fL fdL ["_law_found", "_law_due"] (spLK K 3)) (lm : mg "_law_like" = some (.ref fL)) (lk : PySem.W.keepIn K (.ref fL) = true) (lb : Binds K fdL ["_law_found", "_law_due"] []) :
    FnOk P w K mg base CX0 5 f fd ["_law_made", "_law_r"] (spSR R) := by
  obtain ⟨f1, fd1, G1, m1, b1⟩ := M.words.ex
  obtain ⟨f2, fd2, G2, m2, b2⟩ := M.low.ex
  obtain ⟨f3, fd3, G3, m3, b3⟩ := M.high.ex
  obtain ⟨f4, fd4, G4, m4, b4⟩ := M.span.ex
  refine F.ok scSR (fun vs H Q E h => ?_) (fun cdv A outer s H vs Q E hr h => ?_)
  · obtain ⟨r, p, T, t, ys, xs, lo, hi, wd, rfl, _⟩ := h
    rfl
  · obtain ⟨r, p, T, t, ys, xs, lo, hi, wd, rfl, hR, hp, hs, ⟨hT, ht⟩, h60, q⟩ := h
    have hr1 : Room 1 _ := hr.mono (by decide)
    refine ⟨_, pss_cons (ps_set (i := 2) scSR.nd rfl (.inl rfl) (pe_tup (pa_cons (pe_meth0 (pv 0) M.c.c m1 G1 hr1 b1 .nil pass0) (pa_cons (pe_meth0 (pv 0) M.c.c m2 G2 hr1 b2 .nil pass0) (pa_cons (pe_meth0 (pv 0) M.c.c m3 G3 hr1 b3 .nil pass0) (pa_cons (pe_meth0 (pv 0) M.c.c m4 G4 hr1 b4 .nil pass0) pa_nil))))))
      (pss_one (ps_ret (pe_call GL hr rfl lm lk lb .nil pass0 (pa_cons (pv 2) (pa_cons (pe_tup (pa_cons (pe_callB cr_sortedST (by rfl) ms (by decide +kernel) (pa_cons (pe_ix ix_tup (pv 1) pe_int (fun _ _ => rfl)) pa_nil)) (pa_cons (pe_ix ix_tup (pv 1) pe_int (fun _ _ => rfl)) (pa_cons (pe_ix ix_tup (pv 1) pe_int (fun _ _ => rfl)) (pa_cons (pe_ix ix_tup (pv 1) pe_int (fun _ _ => rfl)) pa_nil))))) pa_nil))))), ?_⟩
    obtain ⟨dx, h1, h2⟩ := id hR
    refine ⟨.ref r, rfl, r, dx, _, rfl, h1, rfl, r, p, ys, lo, hi, wd, rfl, hR, fun l nl => ?_⟩
    have s1 : Same H (upd H l (.lst (ys.map V.str))) := same_new nl
    have hR1 := hR.same s1
    refine ⟨.ref r, rfl, r, dx, _, rfl, s1 _ _ h1, rfl, r, p, ys, lo, hi, wd, rfl, hR1, ?_⟩
    refine ⟨.ref r, rfl, r, dx, _, rfl, s1 _ _ h1, rfl, r, p, ys, lo, hi, wd, rfl, hR1, ?_⟩
    refine ⟨.ref r, rfl, r, dx, _, rfl, s1 _ _ h1, rfl, r, p, ys, lo, hi, wd, rfl, hR1, ?_⟩
    refine ⟨by show 4 ≤ sizeLine; decide, fun t4 n4 => ?_⟩
    have s4 := s1.trans (same_new (o := .tup [.ref l, .int lo, vI hi, vI wd]) n4)
    have sqT : SqT K (upd (upd H l (.lst (ys.map V.str))) t4 (.tup [.ref l, .int lo, vI hi, vI wd])) T [.ref t, .int lo, vI hi, vI wd] := .inl (.inl (s4 _ _ hT))
    refine ⟨_, rfl, .ref T, rfl, T, _, 0, .ref t, rfl, rfl, sqT, rfl, t, xs, rfl, .inr (.inl (.inl (s4 _ _ ht))), by omega, fun zs c hz hzs nc => ?_⟩
    have s5 := s4.trans (same_new (o := .lst (zs.map V.str)) nc)
    have sqT5 := Same.tup (same_new (o := .lst (zs.map V.str)) nc) sqT
    obtain rfl : zs = ys := sortedS_one (hz.trans hp.symm) hzs hs
    refine ⟨.ref T, rfl, T, _, 1, .int lo, rfl, rfl, sqT5, rfl, .ref T, rfl, T, _, 2, vI hi, rfl, rfl, sqT5, rfl, .ref T, rfl, T, _, 3, vI wd, rfl, rfl, sqT5, rfl, by show 4 ≤ sizeLine; decide, fun t6 n6 => ?_⟩
    have s6 := s5.trans (same_new (o := .tup [.ref c, .int lo, vI hi, vI wd]) n6)
    have e4 : t4 ≠ c := ne_of_none upd_same nc
    have el : l ≠ t4 := ne_of_none upd_same n4
    refine ⟨_, _, rfl, .tup (.inl (.inl (same_new n6 _ _ (same_new nc _ _ upd_same)))) (.inl (.inl upd_same)) rfl (by show 4 ≤ 1001; decide) (fun i a b ha hb => ?_), fun H' sm => q H' (s6.trans sm)⟩
    match i, ha, hb with
    | 0, ha, hb =>
      obtain rfl : V.ref l = a := Option.some.inj ha
      obtain rfl : V.ref c = b := Option.some.inj hb
      refine lk_strs (l := zs) (same_new n6 _ _ (same_new nc _ _ (same_new n4 _ _ upd_same))) (same_new n6 _ _ upd_same) ?_
      rw [hp.length_eq]
      omega
    | 1, ha, hb =>
      obtain rfl : V.int lo = a := Option.some.inj ha
      obtain rfl : V.int lo = b := Option.some.inj hb
      exact .int lo
    | 2, ha, hb =>
      obtain rfl : vI hi = a := Option.some.inj ha
      obtain rfl : vI hi = b := Option.some.inj hb
      exact lk_vI hi
    | 3, ha, hb =>
      obtain rfl : vI wd = a := Option.some.inj ha
      obtain rfl : vI wd = b := Option.some.inj hb
      exact lk_vI wd
    | _ + 4, ha, _ => simp at ha
end
end K04

set_option Elab.async false
set_option linter.all false
set_option maxRecDepth 100000
set_option maxHeartbeats 4000000
namespace K04
open PySem PySem.Spec PyProof.Rows L2 Pw TL
section
variable {P : Program} {w : World} {K : PySem.W.Frag} {mg : Str → Option Value} {base : Heap}
theorem vI_vO (o : Option Int) : vI o = vO o := by cases o <;> rfl
/-- small numbers -/
def Small (i : Int) : Prop := 0 ≤ i ∧ i ≤ 9
def SmallO (o : Option Int) : Prop := ∀ i, o = some i → Small i
theorem small_lg {i : Int} (h : Small i) : i.natAbs.log2 < 1920 := by
  obtain ⟨h0, h9⟩ := h
  by_cases e : i.natAbs = 0
  · rw [e]
    decide
  · exact (Nat.log2_lt e).mpr (Nat.lt_of_le_of_lt (by omega : i.natAbs ≤ 9) (Nat.lt_of_lt_of_le (by decide : 9 < 2 ^ 4) (Nat.pow_le_pow_right (by decide) (by decide))))
/-- a number or None as it is written -/
def numT : Option Int → Str
  | none => Str.ofString "-"
  | some i => (toString i : String)
theorem numT_len {o : Option Int} (h : SmallO o) : (numT o).length ≤ 1921 := by
  cases o with
  | none => decide
  | some i => exact int_text_len_1921 (small_lg (h i rfl))
theorem optT_len {o : Option Int} (h : SmallO o) : (optText o).length ≤ 1921 := by
  cases o with
  | none => decide
  | some i => exact int_text_len_1921 (small_lg (h i rfl))
/-! number_text -/
abbrev sNT : Stmt := topS 15
theorem scNT : FnScope ["number"] ["number"] (defScope sNT) := ⟨rfl, rfl, rfl, by decide +kernel, rfl, by decide +kernel, by decide +kernel⟩
def spNT : Sp := fun vs H Q _ => ∃ o : Option Int, vs = [vI o] ∧ SmallO o ∧ Q (.str (numT o)) H
theorem ok_nt {f : Addr} {fd : FuncData} {k : Nat} (F : Fun K "number_text" "number_text" sNT f fd) (ms : mg "str" = none) : FnOk P w K mg base CX0 (k + 1) f fd ["number"] spNT := by
  refine F.ok scNT (fun vs H Q E h => ?_) (fun cdv A outer s H vs Q E hr h => ?_)
  · obtain ⟨o, rfl, _⟩ := h
    rfl
  · obtain ⟨o, rfl, hs, q⟩ := h
    refine ⟨_, pss_one (ps_ret (pe_ifExp (pt_cmpR op_isN (pv 0) pe_non (nomark _)) pe_str (pe_callTy call_str_int (by rfl) ms (by decide +kernel) (pa_cons (pv 0) pa_nil)))), ?_⟩
    cases o with
    | none => exact ⟨.non, rfl, rfl, _, rfl, iteT q⟩
    | some i => exact ⟨.int i, rfl, rfl, _, rfl, iteF ⟨_, rfl, i, rfl, small_lg (hs i rfl), q⟩⟩
/-! words_text -/
abbrev sWT : Stmt := topS 16
theorem scWT : FnScope ["words"] ["words"] (defScope sWT) := ⟨rfl, rfl, rfl, by decide +kernel, rfl, by decide +kernel, by decide +kernel⟩
def wT (ys : List Str) : Str := match ys with
  | [] => Str.ofString "-"
  | y :: r => Txt.join (Str.ofString "+") (y :: r)
def spWT : Sp := fun vs H Q _ => ∃ (l : Addr) (ys : List Str), vs = [.ref l] ∧ H l = some (.lst (ys.map V.str)) ∧ ShortT ys ∧ Q (.str (wT ys)) H
theorem sum_len {ys : List Str} (h : ∀ y ∈ ys, (tl y).length ≤ 1000 ∧ PyData.strOk y = true) : (ys.map (·.length)).sum ≤ ys.length * 1000 := by
  induction ys with
  | nil => exact Nat.zero_le _
  | cons z r ih =>
    have a1 := ih fun y hy => h y (List.mem_cons_of_mem _ hy)
    have a2 := (h z List.mem_cons_self).1
    rw [List.map_cons, List.sum_cons, List.length_cons, len_tl]
    omega
theorem join_room {ys : List Str} (h : ShortT ys) {z : Str} (hz : z.length ≤ 1) : (ys.map (·.length)).sum + ys.length * z.length ≤ 16777216 := by
  have h1 := sum_len h.2
  have h2 := h.1
  have h3 : ys.length * z.length ≤ ys.length * 1 := Nat.mul_le_mul (Nat.le_refl _) hz
  omega
theorem ok_wt {f : Addr} {fd : FuncData} {k : Nat} (F : Fun K "words_text" "words_text" sWT f fd) : FnOk P w K mg base CX0 (k + 1) f fd ["words"] spWT := by
  refine F.ok scWT (fun vs H Q E h => ?_) (fun cdv A outer s H vs Q E hr h => ?_)
  · obtain ⟨l, ys, rfl, _⟩ := h
    rfl
  · obtain ⟨l, ys, rfl, hl, hs, q⟩ := h
    refine ⟨_, pss_one (ps_ret (pe_ifExp (pt_truth (pv 0) (fun _ => rfl)) (pe_join pe_str (pv 0)) pe_str)), ?_⟩
    refine ⟨.ref l, rfl, _, .inl ⟨_, SqL.of hl, rfl⟩, ?_⟩
    cases ys with
    | nil => exact iteF q
    | cons y r => exact iteT ⟨⟨_, rfl⟩, _, rfl, _, l, y :: r, rfl, rfl, .inl (SqL.of hl), join_room hs (by decide), q⟩
/-! Rule.__eq__ -/
abbrev sEQ : Stmt := inClass (topS 17) 12
theorem scEQ : FnScope ["self", "other"] ["self", "other"] (defScope sEQ) := ⟨rfl, rfl, rfl, by decide +kernel, rfl, by decide +kernel, by decide +kernel⟩
/-- what isinstance asks of the class -/
structure IsiC (K : PySem.W.Frag) (R : Addr) : Prop where
  ha : PySem.W.findIn K (.ref R) "__class__" = some (some (.builtin "object.__class__"))
  hn : PySem.W.specialIn K (.builtin "object.__class__") "__get__" = some (some (.builtin "getset_descriptor.__get__"))
  htk : PySem.W.takesIn K (.builtin "object.__class__") = some true
  hm : PySem.W.mroIn K R (.type "object") = some true
  me : PySem.W.kitOne K (.ref R) (.ref R) = some true
theorem ty_rule {H : Hp} {R r p : Addr} {ys : List Str} {lo : Int} {hi sp : Option Int} (c : RuleC K R) (i : IsiC K R) (h : RuleAt H R r p ys lo hi sp) : TyX K H (.ref r) (.ref R) := by
  obtain ⟨dx, h1, _⟩ := h
  exact .base (.ins h1 c.c i.ha i.hn i.htk i.hm)
def sameR (ys ys2 : List Str) (lo lo2 : Int) (hi hi2 sp sp2 : Option Int) : Bool := decide (ys = ys2) && (decide (lo = lo2) && (decide (hi = hi2) && decide (sp = sp2)))
def spEQ (K : PySem.W.Frag) (R : Addr) : Sp := fun vs H Q _ => ∃ (r p : Addr) (ys : List Str) (lo : Int) (hi sp : Option Int), RuleAt H R r p ys lo hi sp ∧ Short ys ∧
  ((∃ (r2 p2 : Addr) (ys2 : List Str) (lo2 : Int) (hi2 sp2 : Option Int), vs = [.ref r, .ref r2] ∧ RuleAt H R r2 p2 ys2 lo2 hi2 sp2 ∧ Short ys2 ∧ Q (.bl (sameR ys ys2 lo lo2 hi hi2 sp sp2)) H) ∨
   ∃ (y : V) (t : Value), vs = [.ref r, y] ∧ TyX K H y t ∧ PySem.W.kitOne K t (.ref R) = some false ∧ Q (.bl false) H)
theorem shaped_strs (ns : List Str) (hs : Short ns) : SeqAt.shaped (.list (ns.map PyData.str)) = true := by
  have h1 : PyData.depthAll (ns.map PyData.str) ≤ 1 := depth_strs ns
  have h3 : PyData.canLayAll0 (ns.map PyData.str) = true := by
    clear h1
    induction ns with
    | nil => simp [PyData.canLayAll0]
    | cons a r ih =>
      have h5 := (hs a (List.mem_cons_self ..)).2
      have h6 := ih fun x hx => hs x (List.mem_cons_of_mem _ hx)
      simp [PyData.canLayAll0, PyData.canLay0] at *
      exact ⟨h5, h6⟩
  have h2 : PyData.depth (.list (ns.map PyData.str)) ≤ 64 := by simp only [PyData.depth]; omega
  show (PyData.canLay0 (.list (ns.map PyData.str)) && decide (PyData.depth (.list (ns.map PyData.str)) ≤ 64)) = true
  rw [Bool.and_eq_true]
  exact ⟨by simp only [PyData.canLay0]; exact h3, decide_eq_true h2⟩
theorem eqv_all : ∀ (a b : List Str), PyData.eqvAll (a.map PyData.str) (b.map PyData.str) = decide (a = b)
  | [], [] => rfl
  | [], _ :: _ => rfl
  | _ :: _, [] => rfl
  | x :: a, y :: b => by
    rw [List.map_cons, List.map_cons]
    show (PyData.eqv (.str x) (.str y) && PyData.eqvAll (a.map PyData.str) (b.map PyData.str)) = _
    rw [eqv_all a b]
    show ((x == y) && decide (a = b)) = _
    by_cases h : x = y
    · subst h
      by_cases h2 : a = b
      · subst h2
        simp
      · rw [decide_eq_false h2, decide_eq_false (fun z => h2 (List.cons.inj z).2), Bool.and_false]
    · rw [decide_eq_false (fun z => h (List.cons.inj z).1), beq_eq_false_iff_ne.mpr h, Bool.false_and]
theorem eqv_list (a b : List Str) : PyData.eqv (.list (a.map PyData.str)) (.list (b.map PyData.str)) = decide (a = b) := by
  show PyData.eqvAll (a.map PyData.str) (b.map PyData.str) = _
  exact eqv_all a b
theorem dec_vI (a b : Option Int) : decide (vI a = vI b) = decide (a = b) := by
  cases a with
  | none =>
    cases b with
    | none => rfl
    | some j => rfl
  | some i =>
    cases b with
    | none => rfl
    | some j =>
      by_cases h : i = j
      · subst h
        rw [decide_eq_true rfl, decide_eq_true rfl]
      · show decide (V.int i = V.int j) = _
        rw [decide_eq_false (fun z => h (V.int.inj z)), decide_eq_false (fun z => h (Option.some.inj z))]
theorem scal_vI (a b : Option Int) : scal (vI a) (vI b) = true := by cases a <;> cases b <;> rfl
theorem ok_eq {f R : Addr} {fd : FuncData} {k : Nat} (F : Fun K "__eq__" "Rule.__eq__" sEQ f fd) (T : RuleC K R) (C : IsiC K R) (mi : mg "isinstance" = none) (mR : mg "Rule" = some (.ref R)) : FnOk P w K mg base CX0 (k + 1) f fd ["self", "other"] (spEQ K R) := by
  refine F.ok scEQ (fun vs H Q E h => ?_) (fun cdv A outer s H vs Q E hr h => ?_)
  · obtain ⟨r, p, ys, lo, hi, sp, _, _, h⟩ := h
    rcases h with ⟨_, _, _, _, _, _, rfl, _⟩ | ⟨_, _, rfl, _⟩ <;> rfl
  · obtain ⟨r, p, ys, lo, hi, sp, hR, hs, h⟩ := h
    suffices hh : ∃ t, PSs (cxOf CX0 P w K mg base ["self", "other"] "Rule.__eq__" (defScope sEQ) f cdv A outer s H E).nox (defBody sEQ) t ∧ ∀ y : V, vs = [.ref r, y] → t { nx := fun _ H' => Q .non H', rt := Q } (L2.start ["self", "other"] [.ref r, y]) H by
      obtain ⟨t, h1, h2⟩ := hh
      refine ⟨t, h1, ?_⟩
      rcases h with ⟨r2, _, _, _, _, _, e, _⟩ | ⟨y, _, e, _⟩
      · rw [e]
        exact h2 _ e
      · rw [e]
        exact h2 _ e
    refine ⟨_, pss_one (ps_ret (pe_and (pe_callB call_isi (by rfl) mi (by decide +kernel) (pa_cons (pv 1) (pa_cons (pe_glob (v := .ref R) rfl mR rfl) pa_nil)))
      (pe_and (pe_cmpR (op_eqD hr.units) (pe_fld (pv 0) rfl) (pe_fld (pv 1) rfl) (nomark _)) (pe_and (pe_cmpR op_eq (pe_fld (pv 0) rfl) (pe_fld (pv 1) rfl) (nomark _))
      (pe_and (pe_cmpR op_eq (pe_fld (pv 0) rfl) (pe_fld (pv 1) rfl) (nomark _)) (pe_one (pe_cmpR op_eq (pe_fld (pv 0) rfl) (pe_fld (pv 1) rfl) (nomark _)))))))), fun y ey => ?_⟩
    obtain ⟨dx, h1, h2⟩ := id hR
    rcases h with ⟨r2, p2, ys2, lo2, hi2, sp2, e, hR2, hs2, q⟩ | ⟨y2, t, e, ty, hk, q⟩
    · obtain rfl : y = .ref r2 := by
        rw [e] at ey
        exact (List.cons.inj (List.cons.inj ey).2).1.symm
      obtain ⟨dx2, g1, g2⟩ := id hR2
      refine ⟨.ref r2, rfl, .ref r2, .ref R, .ref R, .ref R, true, rfl, .own R, ty_rule T C hR2, C.me, true, rfl, iteT ?_⟩
      refine ⟨_, rfl, r, R, dx, _, .ref p, rfl, h1, T.c, T.n1, rfl, _, rfl, r2, R, dx2, _, .ref p2, rfl, g1, T.c, T.n1, rfl, .list (ys.map PyData.str), .list (ys2.map PyData.str), .lst (SqL.of h2) (words_dp ys), .lst (SqL.of g2) (words_dp ys2), shaped_strs ys hs, shaped_strs ys2 hs2, _, rfl, ?_⟩
      rw [eqv_list]
      unfold sameR at q
      by_cases c1 : ys = ys2
      · rw [decide_eq_true c1] at q ⊢
        refine iteT ⟨_, rfl, r, R, dx, _, .int lo, rfl, h1, T.c, T.n2, rfl, _, rfl, r2, R, dx2, _, .int lo2, rfl, g1, T.c, T.n2, rfl, rfl, _, rfl, ?_⟩
        by_cases c2 : lo = lo2
        · rw [decide_eq_true c2] at q
          rw [decide_eq_true (by rw [c2])]
          refine iteT ⟨_, rfl, r, R, dx, _, vI hi, rfl, h1, T.c, T.n3, rfl, _, rfl, r2, R, dx2, _, vI hi2, rfl, g1, T.c, T.n3, rfl, scal_vI _ _, _, rfl, ?_⟩
          rw [dec_vI]
          by_cases c3 : hi = hi2
          · rw [decide_eq_true c3] at q ⊢
            refine iteT ⟨_, rfl, r, R, dx, _, vI sp, rfl, h1, T.c, T.n4, rfl, _, rfl, r2, R, dx2, _, vI sp2, rfl, g1, T.c, T.n4, rfl, scal_vI _ _, ?_⟩
            rw [dec_vI]
            exact q
          · rw [decide_eq_false c3] at q ⊢
            exact iteF q
        · rw [decide_eq_false c2] at q
          rw [decide_eq_false (fun z => c2 (V.int.inj z))]
          exact iteF q
      · rw [decide_eq_false c1] at q ⊢
        exact iteF q
    · obtain rfl : y = y2 := by
        rw [e] at ey
        exact (List.cons.inj (List.cons.inj ey).2).1.symm
      exact ⟨y, rfl, y, .ref R, t, .ref R, false, rfl, .own R, ty, hk, false, rfl, iteF q⟩
/-! Rule.__str__ -/
abbrev sST : Stmt := inClass (topS 17) 13
theorem scST : FnScope ["self"] ["self"] (defScope sST) := ⟨rfl, rfl, rfl, by decide +kernel, rfl, by decide +kernel, by decide +kernel⟩
def ruleT (ys : List Str) (lo : Int) (hi sp : Option Int) : Str := Txt.join (Str.ofString " ") [wT ys, numT (some lo), numT hi, numT sp]
def spST (R : Addr) : Sp := fun vs H Q _ => ∃ (r p : Addr) (ys : List Str) (lo : Int) (hi sp : Option Int), vs = [.ref r] ∧ RuleAt H R r p ys lo hi sp ∧ ShortT ys ∧ Small lo ∧ SmallO hi ∧ SmallO sp ∧ ∀ H', Same H H' → Q (.str (ruleT ys lo hi sp)) H'
theorem joinL_len (s : List Nat) : ∀ ps : List (List Nat), (joinL s ps).length ≤ (ps.map List.length).sum + ps.length * s.length
  | [] => Nat.zero_le _
  | [a] => by
    show a.length ≤ a.length + 0 + 1 * s.length
    omega
  | a :: b :: r => by
    have ih := joinL_len s (b :: r)
    have e : joinL s (a :: b :: r) = a ++ s ++ joinL s (b :: r) := by
      first
        | rfl
        | simp [joinL]
    rw [e, List.length_append, List.length_append, List.map_cons, List.sum_cons, List.length_cons, Nat.succ_mul]
    omega
theorem join_len (s : Str) (ys : List Str) : (Txt.join s ys).length ≤ (ys.map (·.length)).sum + ys.length * s.length := by
  rw [join_eq, len_tl, tl_join]
  have h := joinL_len (tl s) (ys.map tl)
  rw [List.map_map, List.length_map] at h
  have e : ys.map (List.length ∘ tl) = ys.map (·.length) := List.map_congr_left fun y _ => (len_tl y).symm
  rw [e, ← len_tl] at h
  exact h
theorem wT_len {ys : List Str} (h : ShortT ys) : (wT ys).length ≤ 100000 := by
  cases ys with
  | nil => decide
  | cons y r =>
    have h1 := sum_len h.2
    have h2 := h.1
    have h3 : (Txt.join (Str.ofString "+") (y :: r)).length ≤ ((y :: r).map (·.length)).sum + (y :: r).length * 1 := join_len (Str.ofString "+") (y :: r)
    show (Txt.join (Str.ofString "+") (y :: r)).length ≤ _
    omega
theorem ok_st {f R fW fN : Addr} {fd fdW fdN : FuncData} (F : Fun K "__str__" "Rule.__str__" sST f fd) (T : RuleC K R)
    (GW : FnOk P w K mg base CX0 1 fW fdW ["words"] spWT) (wm : mg "words_text" = some (.ref fW)) (wk : PySem.W.keepIn K (.ref fW) = true) (wb : Binds K fdW ["words"] [])
    (GN : FnOk P w K mg base CX0 1 fN fdN ["number"] spNT) (nm : mg "number_text" = some (.ref fN)) (nk : PySem.W.keepIn K (.ref fN) = true) (nb : Binds K fdN ["number"] []) : FnOk P w K mg base CX0 2 f fd ["self"] (spST R) := by
  refine F.ok scST (fun vs H Q E h => ?_) (fun cdv A outer s H vs Q E hr h => ?_)
  · obtain ⟨r, p, ys, lo, hi, sp, rfl, _⟩ := h
    rfl
  · obtain ⟨r, p, ys, lo, hi, sp, rfl, hR, hs, hlo, hhi, hsp, q⟩ := h
    refine ⟨_, pss_one (ps_ret (pe_join pe_str (pe_lst (pa_cons (pe_call GW hr rfl wm wk wb .nil pass0 (pa_cons (pe_fld (pv 0) rfl) pa_nil)) (pa_cons (pe_call GN hr rfl nm nk nb .nil pass0 (pa_cons (pe_fld (pv 0) rfl) pa_nil)) (pa_cons (pe_call GN hr rfl nm nk nb .nil pass0 (pa_cons (pe_fld (pv 0) rfl) pa_nil)) (pa_cons (pe_call GN hr rfl nm nk nb .nil pass0 (pa_cons (pe_fld (pv 0) rfl) pa_nil)) pa_nil))))))), ?_⟩
    obtain ⟨dx, h1, h2⟩ := id hR
    have sl : SmallO (some lo) := fun i e => by rw [← Option.some.inj e]; exact hlo
    refine ⟨⟨_, rfl⟩, _, rfl, r, R, dx, _, .ref p, rfl, h1, T.c, T.n1, rfl, p, ys, rfl, h2, hs, ?_⟩
    refine ⟨_, rfl, r, R, dx, _, .int lo, rfl, h1, T.c, T.n2, rfl, some lo, rfl, sl, ?_⟩
    refine ⟨_, rfl, r, R, dx, _, vI hi, rfl, h1, T.c, T.n3, rfl, hi, rfl, hhi, ?_⟩
    refine ⟨_, rfl, r, R, dx, _, vI sp, rfl, h1, T.c, T.n4, rfl, sp, rfl, hsp, by show 4 ≤ sizeLine; decide, fun l nl => ?_⟩
    refine ⟨_, l, [wT ys, numT (some lo), numT hi, numT sp], rfl, rfl, .inl (SqL.of upd_same), ?_, q _ (same_new nl)⟩
    have b1 := wT_len hs
    have b2 := numT_len sl
    have b3 := numT_len hhi
    have b4 := numT_len hsp
    show (wT ys).length + ((numT (some lo)).length + ((numT hi).length + ((numT sp).length + 0))) + 4 * 1 ≤ 16777216
    omega
/-! Rule.__repr__ -/
abbrev sRP : Stmt := inClass (topS 17) 14
theorem scRP : FnScope ["self"] ["self"] (defScope sRP) := ⟨rfl, rfl, rfl, by decide +kernel, rfl, by decide +kernel, by decide +kernel⟩
def reprL (ys : List Str) (lo : Int) (hi sp : Option Int) : List Nat := tl (Str.ofString "Rule(") ++ (tl (wordsText ys) ++ (tl (Str.ofString ", low=") ++ (tl (optText (some lo)) ++ (tl (Str.ofString ", high=") ++ (tl (optText hi) ++ (tl (Str.ofString ", span=") ++ (tl (optText sp) ++ tl (Str.ofString ")"))))))))
def spRP (R : Addr) : Sp := fun vs H Q _ => ∃ (r p : Addr) (ys : List Str) (lo : Int) (hi sp : Option Int), vs = [.ref r] ∧ RuleAt H R r p ys lo hi sp ∧ ShortT ys ∧ Small lo ∧ SmallO hi ∧ SmallO sp ∧ ∀ z : Str, tl z = reprL ys lo hi sp → Q (.str z) H
theorem len_app (a b : Str) : (a ++ b).length = a.length + b.length := by rw [len_tl, tl_append, List.length_append, ← len_tl, ← len_tl]
theorem ok_rp {f R : Addr} {fd : FuncData} {k : Nat} (F : Fun K "__repr__" "Rule.__repr__" sRP f fd) (T : RuleC K R) : FnG P w K mg base (k + 1) f fd ["self"] (spRP R) := by
  refine fnG_of F scRP (fun vs H Q E h => ?_) (fun cdv A outer s H vs Q E gd hr h => ?_)
  · obtain ⟨r, p, ys, lo, hi, sp, rfl, _⟩ := h
    rfl
  · obtain ⟨r, p, ys, lo, hi, sp, rfl, hR, hs, hlo, hhi, hsp, q⟩ := h
    refine ⟨_, pss_one (ps_ret (pe_joined (PJ.cons pe_str (PJ.cons (pe_fmtW gd hr.units (pe_fld (pv 0) rfl)) (PJ.cons pe_str (PJ.cons (pe_fmtO (pe_fld (pv 0) rfl)) (PJ.cons pe_str (PJ.cons (pe_fmtO (pe_fld (pv 0) rfl)) (PJ.cons pe_str (PJ.cons (pe_fmtO (pe_fld (pv 0) rfl)) (PJ.cons pe_str PJ.nil))))))))))), ?_⟩
    obtain ⟨dx, h1, h2⟩ := id hR
    have sl : SmallO (some lo) := fun i e => by rw [← Option.some.inj e]; exact hlo
    have c1 := words_len hs
    have c2 := optT_len sl
    have c3 := optT_len hhi
    have c4 := optT_len hsp
    have k1 : (Str.ofString "Rule(").length = 5 := rfl
    have k2 : (Str.ofString ", low=").length = 6 := rfl
    have k3 : (Str.ofString ", high=").length = 7 := rfl
    have k4 : (Str.ofString ", span=").length = 7 := rfl
    have k5 : (Str.ofString ")").length = 1 := rfl
    have k0 : Str.empty.length = 0 := rfl
    have big : 800000 ≤ sizeLine := by decide
    refine ⟨_, rfl, by rw [len_app]; omega, _, rfl, r, R, dx, _, .ref p, rfl, h1, T.c, T.n1, rfl, p, ys, rfl, SqL.of h2, hs, _, rfl, by rw [len_app, len_app]; omega, ?_⟩
    refine ⟨_, rfl, by rw [len_app, len_app, len_app]; omega, _, rfl, r, R, dx, _, .int lo, rfl, h1, T.c, T.n2, rfl, some lo, rfl, (fun i e => small_lg (sl i e)), _, rfl, by rw [len_app, len_app, len_app, len_app]; omega, ?_⟩
    refine ⟨_, rfl, by rw [len_app, len_app, len_app, len_app, len_app]; omega, _, rfl, r, R, dx, _, vI hi, rfl, h1, T.c, T.n3, rfl, hi, vI_vO hi, (fun i e => small_lg (hhi i e)), _, rfl, by rw [len_app, len_app, len_app, len_app, len_app, len_app]; omega, ?_⟩
    refine ⟨_, rfl, by rw [len_app, len_app, len_app, len_app, len_app, len_app, len_app]; omega, _, rfl, r, R, dx, _, vI sp, rfl, h1, T.c, T.n4, rfl, sp, vI_vO sp, (fun i e => small_lg (hsp i e)), _, rfl, by rw [len_app, len_app, len_app, len_app, len_app, len_app, len_app, len_app]; omega, ?_⟩
    refine ⟨_, rfl, by rw [len_app, len_app, len_app, len_app, len_app, len_app, len_app, len_app, len_app]; omega, q _ ?_⟩
    simp only [tl_append]
    unfold reprL
    simp only [List.append_assoc]
    rfl
end
end K04

set_option Elab.async false
set_option linter.all false
set_option maxRecDepth 100000
set_option maxHeartbeats 4000000
namespace K04
open PySem PySem.Spec PyProof.Rows L2 Pw TL
section
variable {P : Program} {w : World} {K : PySem.W.Frag} {mg : Str → Option Value} {base : Heap}
theorem parts_inv {xs : List Str} {lo : Int} {hi wd : Option Int} (h : partBad xs lo hi wd = none) : 0 ≤ lo ∧ lo ≤ 3 ∧ (∀ g, hi = some g → max 1 lo ≤ g ∧ g ≤ 7) ∧ (∀ g, wd = some g → 1 ≤ g ∧ g ≤ 4) := by
  unfold partBad at h
  split at h
  · split at h
    · split at h
      · split at h
        · rename_i h1 h2 h3 h4
          have a := of_decide_eq_true h2
          refine ⟨a.1, a.2, fun g e => ?_, fun g e => ?_⟩
          · subst e
            exact of_decide_eq_true h3
          · subst e
            exact of_decide_eq_true h4
        · cases h
      · cases h
    · cases h
  · cases h
theorem sorted_tail {xs : List Str} (h : sortedS xs = true) : sortedS (xs.drop 1) = true := by
  cases xs with
  | nil => rfl
  | cons x r =>
    cases r with
    | nil => rfl
    | cons y r =>
      show sortedS (y :: r) = true
      have h2 : risingS x (y :: r) = true := h
      unfold risingS at h2
      first
        | exact (Bool.and_eq_true_iff.mp h2).2
        | simp_all [sortedS]
theorem goodG_tail {xs : List Str} (h : ShortG xs) : ShortG (xs.drop 1) := ⟨fun z hz => h.1 z (List.mem_of_mem_drop hz), h.2.1.sublist (List.drop_sublist _ _), fun z hz => h.2.2 z (List.mem_of_mem_drop hz)⟩
/-! _law_near -/
abbrev sNE : Stmt := topS 30
theorem scNE : FnScope ["_law_draw", "_law_r", "_law_way"] ["_law_draw", "_law_r"] (defScope sNE) := ⟨rfl, rfl, rfl, by decide +kernel, rfl, by decide +kernel, by decide +kernel⟩
/-- a drawn rule's parts -/
structure Drawn (xs : List Str) (lo : Int) (hi wd : Option Int) : Prop where
  l6 : xs.length ≤ 6
  g : ShortG xs
  s : sortedS xs = true
  b : partBad xs lo hi wd = none
def spNE : Sp := fun vs H Q _ => ∃ (p q : Addr) (ns : List Int) (T t : Addr) (xs : List Str) (lo : Int) (hi wd : Option Int), vs = [.ref p, .ref T] ∧ Dr p q ns H ∧ Parts H T t xs lo hi wd ∧ Drawn xs lo hi wd ∧
  ∀ (T2 t2 : Addr) (xs2 : List Str) (lo2 : Int) (hi2 wd2 : Option Int) (H' : Hp), Drawn xs2 lo2 hi2 wd2 → Parts H' T2 t2 xs2 lo2 hi2 wd2 → Go p q ns H H' → Q (.ref T2) H'
theorem tup_ne {p q : Addr} {ns : List Int} {H : Hp} (h : Dr p q ns H) {a : Addr} {xs : List V} (e : H a = some (.tup xs)) : a ≠ p := fun z => by
  obtain ⟨_, _, _, _, h2, _⟩ := h
  rw [z, h2] at e
  cases e
theorem Parts.go {p q : Addr} {ns : List Int} {H H1 : Hp} {T t : Addr} {xs : List Str} {lo : Int} {hi wd : Option Int} (h : Parts H T t xs lo hi wd) (hD : Dr p q ns H) (g : Go p q ns H H1) : Parts H1 T t xs lo hi wd :=
  ⟨g.sx _ _ h.1 (tup_ne hD h.1), g.sx _ _ h.2 (tup_ne hD h.2)⟩
theorem ok_ne {f : Addr} {fd : FuncData} (F : Fun K "_law_near" "_law_near" sNE f fd) (U : PUOk P w K mg base) : FnOk P w K mg base CX0 2 f fd ["_law_draw", "_law_r"] spNE := by
  obtain ⟨fR, fdR, G, gm, gk, gb⟩ := U.ex
  refine F.ok scNE (fun vs H Q E h => ?_) (fun cdv A outer s H vs Q E hr h => ?_)
  · obtain ⟨p, q, ns, T, t, xs, lo, hi, wd, rfl, _⟩ := h
    rfl
  · obtain ⟨p, q, ns, T, t, xs, lo, hi, wd, rfl, hD, hP, hW, k⟩ := h
    refine ⟨_, pss_cons (ps_set (i := 2) scNE.nd rfl (.inl rfl) (pe_call G hr rfl gm gk gb .nil pass0 (pa_cons (pv 0) (pa_cons pe_int pa_nil))))
      (pss_cons (ps_if (pt_cmpR op_eq (pv 2) pe_int (nomark _)) (pss_one (ps_ret (pe_tup (pa_cons (pe_slice sl_tupA (pe_ix ix_tup (pv 1) pe_int (fun _ _ => rfl)) (po_some pe_int) po_none) (pa_cons (pe_ix ix_tup (pv 1) pe_int (fun _ _ => rfl)) (pa_cons (pe_ix ix_tup (pv 1) pe_int (fun _ _ => rfl)) (pa_cons (pe_ix ix_tup (pv 1) pe_int (fun _ _ => rfl)) pa_nil))))))) pss_nil)
      (pss_cons (ps_if (pt_cmpR op_eq (pv 2) pe_int (nomark _)) (pss_one (ps_ret (pe_tup (pa_cons (pe_ix ix_tup (pv 1) pe_int (fun _ _ => rfl)) (pa_cons (pe_ix ix_tup (pv 1) pe_int (fun _ _ => rfl)) (pa_cons (pe_ifExp (pt_cmpR op_isN (pe_ix ix_tup (pv 1) pe_int (fun _ _ => rfl)) pe_non (nomark _)) pe_int pe_non) (pa_cons (pe_ix ix_tup (pv 1) pe_int (fun _ _ => rfl)) pa_nil))))))) pss_nil)
      (pss_cons (ps_if (pt_cmpR op_eq (pv 2) pe_int (nomark _)) (pss_one (ps_ret (pe_tup (pa_cons (pe_ix ix_tup (pv 1) pe_int (fun _ _ => rfl)) (pa_cons (pe_ix ix_tup (pv 1) pe_int (fun _ _ => rfl)) (pa_cons (pe_ix ix_tup (pv 1) pe_int (fun _ _ => rfl)) (pa_cons (pe_ifExp (pt_cmpR op_isN (pe_ix ix_tup (pv 1) pe_int (fun _ _ => rfl)) pe_non (nomark _)) pe_int pe_non) pa_nil))))))) pss_nil)
      (pss_cons (ps_if (pt_cmpR op_eq (pv 2) pe_int (nomark _)) (pss_one (ps_ret (pe_tup (pa_cons (pe_ix ix_tup (pv 1) pe_int (fun _ _ => rfl)) (pa_cons (pe_ifExp (pt_cmpR op_gt (pe_ix ix_tup (pv 1) pe_int (fun _ _ => rfl)) pe_int (nomark _)) pe_int pe_int) (pa_cons (pe_ix ix_tup (pv 1) pe_int (fun _ _ => rfl)) (pa_cons (pe_ix ix_tup (pv 1) pe_int (fun _ _ => rfl)) pa_nil))))))) pss_nil)
      (pss_one (ps_ret (pv 1))))))), ?_⟩
    refine ⟨.ref p, rfl, p, q, ns, 6, rfl, by decide, by decide, hD, fun v H1 _ _ sx1 hD1 => ?_⟩
    have g1 := (Go.refl hD).next sx1 hD1
    have hP1 := hP.go hD g1
    have sq : SqT K H1 T [.ref t, .int lo, vI hi, vI wd] := .inl (.inl hP1.1)
    obtain ⟨l0, l3, hh, hw⟩ := parts_inv hW.b
    have make : ∀ (t2 : Addr) (xs2 : List Str) (lo2 : Int) (hi2 wd2 : Option Int) (H2 : Hp), Go p q ns H H2 → H2 t2 = some (.tup (xs2.map V.str)) → Drawn xs2 lo2 hi2 wd2 → ∀ T2, H2 T2 = none → Q (.ref T2) (upd H2 T2 (.tup [.ref t2, .int lo2, vI hi2, vI wd2])) := fun t2 xs2 lo2 hi2 wd2 H2 g2 h2 d2 T2 n2 =>
      k T2 t2 xs2 lo2 hi2 wd2 _ d2 ⟨upd_same, by rw [upd_ne (ne_of_none h2 n2)]; exact h2⟩ (g2.new n2)
    refine ⟨_, rfl, rfl, _, rfl, ite2 (fun _ => ?_) (fun _ => ?_)⟩
    · have dt : Drawn (xs.drop 1) lo hi wd := by
        have l6 : (xs.drop 1).length ≤ 6 := by
          rw [List.length_drop]
          have := hW.l6
          omega
        exact ⟨l6, goodG_tail hW.g, sorted_tail hW.s, parts_ok l6 (goodG_tail hW.g).2 l0 (by omega) hh hw⟩
      have ec : cutV (xs.map V.str) (some 1) none = (xs.drop 1).map V.str := by
        unfold cutV
        rw [show HT.sIx (xs.map V.str).length 0 (some 1) = min 1 (xs.map V.str).length from HT.sIx_nat _ 0 1]
        show List.take ((xs.map V.str).length - min 1 (xs.map V.str).length) (List.drop (min 1 (xs.map V.str).length) (xs.map V.str)) = _
        rw [List.take_of_length_le (by rw [List.length_drop]; exact Nat.le_refl _), ← List.map_drop]
        congr 1
        cases xs with
        | nil => rfl
        | cons a r =>
          rw [List.map_cons, List.length_cons, show min 1 ((r.map V.str).length + 1) = 1 by omega]
      refine ⟨.ref T, rfl, T, _, 0, .ref t, rfl, rfl, sq, rfl, 1, rfl, t, _, rfl, .inl (.inl hP1.2), fun e0 => ?_, fun _ t2 n2 => ?_⟩
      · have ex : xs.drop 1 = xs := by
          have e1 : HT.sIx (xs.map V.str).length 0 (some 1) = min 1 (xs.map V.str).length := HT.sIx_nat _ 0 1
          rw [e1] at e0
          have e2 := e0.1
          rw [List.length_map] at e2
          cases xs with
          | nil => rfl
          | cons a r =>
            rw [List.length_cons] at e2
            omega
        rw [ex] at dt
        refine ⟨.ref T, rfl, T, _, 1, .int lo, rfl, rfl, sq, rfl, .ref T, rfl, T, _, 2, vI hi, rfl, rfl, sq, rfl, .ref T, rfl, T, _, 3, vI wd, rfl, rfl, sq, rfl, by show 4 ≤ sizeLine; decide, fun T2 n2 => ?_⟩
        exact make t xs lo hi wd H1 g1 hP1.2 dt T2 n2
      · rw [ec]
        have sq2 := Same.tup (same_new (o := .tup ((xs.drop 1).map V.str)) n2) sq
        refine ⟨.ref T, rfl, T, _, 1, .int lo, rfl, rfl, sq2, rfl, .ref T, rfl, T, _, 2, vI hi, rfl, rfl, sq2, rfl, .ref T, rfl, T, _, 3, vI wd, rfl, rfl, sq2, rfl, by show 4 ≤ sizeLine; decide, fun T2 m2 => ?_⟩
        exact make t2 (xs.drop 1) lo hi wd _ (g1.new n2) upd_same dt T2 m2
    refine ⟨_, rfl, rfl, _, rfl, ite2 (fun _ => ?_) (fun _ => ?_)⟩
    · refine ⟨.ref T, rfl, T, _, 0, .ref t, rfl, rfl, sq, rfl, .ref T, rfl, T, _, 1, .int lo, rfl, rfl, sq, rfl, .ref T, rfl, T, _, 2, vI hi, rfl, rfl, sq, rfl, rfl, _, rfl, ?_⟩
      cases hi with
      | none =>
        refine iteT ⟨.ref T, rfl, T, _, 3, vI wd, rfl, rfl, sq, rfl, by show 4 ≤ sizeLine; decide, fun T2 n2 => ?_⟩
        exact make t xs lo (some 7) wd H1 g1 hP1.2 ⟨hW.l6, hW.g, hW.s, parts_ok hW.l6 hW.g.2 l0 (by omega) (fun g e => by rw [← Option.some.inj e]; omega) hw⟩ T2 n2
      | some h =>
        refine iteF ⟨.ref T, rfl, T, _, 3, vI wd, rfl, rfl, sq, rfl, by show 4 ≤ sizeLine; decide, fun T2 n2 => ?_⟩
        exact make t xs lo none wd H1 g1 hP1.2 ⟨hW.l6, hW.g, hW.s, parts_ok hW.l6 hW.g.2 l0 (by omega) (fun g e => nomatch e) hw⟩ T2 n2
    refine ⟨_, rfl, rfl, _, rfl, ite2 (fun _ => ?_) (fun _ => ?_)⟩
    · refine ⟨.ref T, rfl, T, _, 0, .ref t, rfl, rfl, sq, rfl, .ref T, rfl, T, _, 1, .int lo, rfl, rfl, sq, rfl, .ref T, rfl, T, _, 2, vI hi, rfl, rfl, sq, rfl, .ref T, rfl, T, _, 3, vI wd, rfl, rfl, sq, rfl, rfl, _, rfl, ?_⟩
      cases wd with
      | none =>
        refine iteT ⟨by show 4 ≤ sizeLine; decide, fun T2 n2 => ?_⟩
        exact make t xs lo hi (some 4) H1 g1 hP1.2 ⟨hW.l6, hW.g, hW.s, parts_ok hW.l6 hW.g.2 l0 (by omega) hh (fun g e => by rw [← Option.some.inj e]; omega)⟩ T2 n2
      | some h =>
        refine iteF ⟨by show 4 ≤ sizeLine; decide, fun T2 n2 => ?_⟩
        exact make t xs lo hi none H1 g1 hP1.2 ⟨hW.l6, hW.g, hW.s, parts_ok hW.l6 hW.g.2 l0 (by omega) hh (fun g e => nomatch e)⟩ T2 n2
    refine ⟨_, rfl, rfl, _, rfl, ite2 (fun _ => ?_) (fun _ => ?_)⟩
    · refine ⟨.ref T, rfl, T, _, 0, .ref t, rfl, rfl, sq, rfl, .ref T, rfl, T, _, 1, .int lo, rfl, rfl, sq, rfl, _, _, rfl, rfl, _, rfl, ?_⟩
      by_cases c : (0 : Int) < lo
      · rw [decide_eq_true c]
        refine iteT ⟨.ref T, rfl, T, _, 2, vI hi, rfl, rfl, sq, rfl, .ref T, rfl, T, _, 3, vI wd, rfl, rfl, sq, rfl, by show 4 ≤ sizeLine; decide, fun T2 n2 => ?_⟩
        exact make t xs 0 hi wd H1 g1 hP1.2 ⟨hW.l6, hW.g, hW.s, parts_ok hW.l6 hW.g.2 (by omega) (by omega) (fun g e => by have := hh g e; omega) hw⟩ T2 n2
      · rw [decide_eq_false c]
        refine iteF ⟨.ref T, rfl, T, _, 2, vI hi, rfl, rfl, sq, rfl, .ref T, rfl, T, _, 3, vI wd, rfl, rfl, sq, rfl, by show 4 ≤ sizeLine; decide, fun T2 n2 => ?_⟩
        exact make t xs 1 hi wd H1 g1 hP1.2 ⟨hW.l6, hW.g, hW.s, parts_ok hW.l6 hW.g.2 (by omega) (by omega) (fun g e => by have := hh g e; omega) hw⟩ T2 n2
    exact ⟨_, rfl, k T t xs lo hi wd H1 hW hP1 g1⟩
/-! _law_rule_text -/
abbrev sRT : Stmt := topS 29
abbrev nRT : List Str := ["_law_r", "_law_parts_here", "_law_part"]
theorem scRT : FnScope nRT ["_law_r"] (defScope sRT) := ⟨rfl, rfl, rfl, by decide +kernel, rfl, by decide +kernel, by decide +kernel⟩
def spRT : Sp := fun vs H Q _ => ∃ (T t : Addr) (xs : List Str) (lo : Int) (hi wd : Option Int), vs = [.ref T] ∧ Parts H T t xs lo hi wd ∧ ShortT xs ∧ sortedS xs = true ∧ Small lo ∧ SmallO hi ∧ SmallO wd ∧ ∀ H', Same H H' → Q (.str (ruleT xs lo hi wd)) H'
theorem ok_rt {f : Addr} {fd : FuncData} {k : Nat} (F : Fun K "_law_rule_text" "_law_rule_text" sRT f fd) (B : BN mg) (ms : mg "sorted" = none) : FnOk P w K mg base CX0 (k + 1) f fd ["_law_r"] spRT := by
  refine F.ok scRT (fun vs H Q E h => ?_) (fun cdv A outer s H vs Q E hr h => ?_)
  · obtain ⟨T, t, xs, lo, hi, wd, rfl, _⟩ := h
    rfl
  · obtain ⟨T, t, xs, lo, hi, wd, rfl, hP, hs, hsr, hlo, hhi, hwd, q⟩ := h
    refine ⟨_, pss_cons (ps_setLc (i := 1) (own := [("_law_part", 2)]) (g := gName 2) rfl scRT.nd rfl rfl (sw_true rfl rfl rfl (by decide +kernel)) (pi_tup (pe_slice sl_tup (pv 0) (po_some pe_int) po_none))
        (blkOk_by (N := nRT) (sc := defScope sRT) (by decide +kernel)) (fun _ _ _ _ _ => pg_name (i := 2) scRT.nd rfl (Or.inl rfl)) (fun _ _ _ _ _ => pts_nil)
        (fun _ _ _ _ _ => pe_ifExp (pt_cmpR op_isN (pv 2) pe_non (nomark _)) pe_str (pe_callTy call_str_int (by rfl) B.str (by decide +kernel) (pa_cons (pv 2) pa_nil))))
      (pss_one (ps_ret (pe_join pe_str (pe_op op_cat (pe_lst (pa_cons (pe_ifExp (pt_cmpR op_gt (pe_callB call_len_seq (by rfl) B.len PySem.boot_len (pa_cons (pe_ix ix_tup (pv 0) pe_int (fun _ _ => rfl)) pa_nil)) pe_int (nomark _))
        (pe_join pe_str (pe_callB cr_sortedST (by rfl) ms (by decide +kernel) (pa_cons (pe_ix ix_tup (pv 0) pe_int (fun _ _ => rfl)) pa_nil))) pe_str) pa_nil)) (pv 1))))), ?_⟩
    have sq : SqT K H T [.ref t, .int lo, vI hi, vI wd] := .inl (.inl hP.1)
    have sl : SmallO (some lo) := fun i e => by rw [← Option.some.inj e]; exact hlo
    have hos : ∀ o ∈ [some lo, hi, wd], SmallO o := fun o ho => by
      rcases List.mem_cons.mp ho with e | ho
      · exact e ▸ sl
      rcases List.mem_cons.mp ho with e | ho
      · exact e ▸ hhi
      exact (List.mem_singleton.mp ho) ▸ hwd
    refine ⟨.ref T, rfl, 1, rfl, T, _, rfl, sq, (fun z => by have := z.1; cases this), fun T1 n1 => ?_⟩
    have s1 : Same H (upd H T1 (.tup ([some lo, hi, wd].map vI))) := same_new n1
    refine ⟨T1, rfl, ⟨_, .inl (.inl upd_same)⟩, fun D nD => ?_⟩
    refine lc_tup (K := K) (a := T1) (xs := [some lo, hi, wd].map vI) (fun i H2 => Same (upd H T1 (.tup ([some lo, hi, wd].map vI))) H2 ∧ H2 D = some (.lst ((([some lo, hi, wd].map numT).take i).map V.str)))
      ⟨same_new nD, upd_same⟩ (fun i H2 _ h => .inl (.inl (h.1 _ _ upd_same))) (fun i v H2 hv h => ?_) (fun H2 h => ?_)
    · obtain ⟨s2, h3⟩ := h
      rw [List.getElem?_map] at hv
      cases hz : [some lo, hi, wd][i]? with
      | none =>
        rw [hz] at hv
        cases hv
      | some o =>
        rw [hz] at hv
        obtain rfl : vI o = v := Option.some.inj hv
        have hg : ([some lo, hi, wd].map numT)[i]? = some (numT o) := by
          rw [List.getElem?_map, hz]
          rfl
        have ho := hos o (List.mem_of_getElem? hz)
        have put : ∃ acc, H2 D = some (.lst acc) ∧ acc.length < sizeLine ∧ (Same (upd H T1 (.tup ([some lo, hi, wd].map vI))) (upd H2 D (.lst (acc ++ [.str (numT o)]))) ∧ upd H2 D (.lst (acc ++ [.str (numT o)])) D = some (.lst ((([some lo, hi, wd].map numT).take (i + 1)).map V.str))) := by
          refine ⟨_, h3, ?_, same_put s2 nD, ?_⟩
          · rw [List.length_map, List.length_take]
            exact Nat.lt_of_le_of_lt (Nat.min_le_right _ _) (by show 3 < sizeLine; decide)
          · rw [upd_same, List.take_add_one, hg, List.map_append]
            rfl
        cases o with
        | none => exact ⟨rfl, .non, rfl, rfl, _, rfl, iteT put⟩
        | some j => exact ⟨rfl, .int j, rfl, rfl, _, rfl, iteF ⟨_, rfl, j, rfl, small_lg (ho j rfl), put⟩⟩
    obtain ⟨s2, h3⟩ := h
    have s12 := s1.trans s2
    have sq2 := Same.tup s12 sq
    have sqt2 : SqT K H2 t (xs.map V.str) := .inl (.inl (s12 _ _ hP.2))
    have fin : ∀ (z : Str) (H5 : Hp), Same H2 H5 → z = wT xs → 1 ≤ sizeLine ∧ ∀ l1, H5 l1 = none → ∃ v, [some (V.ref T), some (.ref D), none][1]? = some (some v) ∧ ∃ l b zs zr, V.ref l1 = .ref l ∧ v = .ref b ∧ upd H5 l1 (.lst [.str z]) l = some (.lst zs) ∧ upd H5 l1 (.lst [.str z]) b = some (.lst zr) ∧ zs.length + zr.length ≤ sizeLine ∧ ∀ p, upd H5 l1 (.lst [.str z]) p = none →
        ∃ a p1, ∃ ys : List Str, V.str (Str.ofString " ") = .str a ∧ [V.ref p] = [.ref p1] ∧ (SqL K (upd (upd H5 l1 (.lst [.str z])) p (.lst (zs ++ zr))) p1 (ys.map V.str) ∨ SqT K (upd (upd H5 l1 (.lst [.str z])) p (.lst (zs ++ zr))) p1 (ys.map V.str)) ∧ (ys.map (·.length)).sum + ys.length * a.length ≤ 16777216 ∧ Q (.str (Txt.join a ys)) (upd (upd H5 l1 (.lst [.str z])) p (.lst (zs ++ zr))) := fun z H5 s5 ez => by
      subst ez
      refine ⟨by decide, fun l1 n1' => ⟨_, rfl, l1, D, _, _, rfl, rfl, upd_same, same_new n1' _ _ (s5 _ _ h3), by show 1 + 3 ≤ sizeLine; decide, fun p np => ⟨_, p, wT xs :: [numT (some lo), numT hi, numT wd], rfl, rfl, .inl (SqL.of upd_same), ?_, ?_⟩⟩⟩
      · have b1 := wT_len hs
        have b2 := numT_len sl
        have b3 := numT_len hhi
        have b4 := numT_len hwd
        show (wT xs).length + ((numT (some lo)).length + ((numT hi).length + ((numT wd).length + 0))) + 4 * 1 ≤ 16777216
        omega
      · exact q _ ((s12.trans s5).trans ((same_new n1').trans (same_new np)))
    refine ⟨⟨_, rfl⟩, .ref T, rfl, T, _, 0, .ref t, rfl, rfl, sq2, rfl, t, _, rfl, .inr sqt2, _, _, rfl, rfl, _, rfl, ?_⟩
    cases xs with
    | nil => exact iteF (fin _ H2 (Same.refl H2) rfl)
    | cons x r =>
      rw [decide_eq_true (by rw [List.length_map, List.length_cons]; omega)]
      refine iteT ⟨⟨_, rfl⟩, .ref T, rfl, T, _, 0, .ref t, rfl, rfl, sq2, rfl, t, x :: r, rfl, .inr sqt2, by have := hs.1; omega, fun zs c hz hzs nc => ?_⟩
      obtain rfl : zs = x :: r := sortedS_one hz hzs hsr
      exact ⟨_, c, x :: r, rfl, rfl, .inl (SqL.of upd_same), join_room hs (by decide), fin _ _ (same_new nc) rfl⟩
end
end K04

set_option Elab.async false
set_option linter.all false
set_option maxRecDepth 100000
set_option maxHeartbeats 4000000
namespace K04
open PySem PySem.Spec PyProof.Rows L2 Pw TL
section
variable {P : Program} {w : World} {K : PySem.W.Frag} {mg : Str → Option Value} {base : Heap}
/-! law -/
abbrev sLW : Stmt := topS 31
abbrev nLW : List Str := ["_law_script", "_law_draw", "_law_turn", "_law_r", "_law_second", "_law_one", "_law_late", "_law_same", "_law_due"]
theorem scLW : FnScope nLW ["_law_script"] (defScope sLW) := ⟨rfl, rfl, rfl, by decide +kernel, rfl, by decide +kernel, by decide +kernel⟩
/-- the two rules and their parts -/
structure Two (p qq : Addr) (ms : List Int) (R T t : Addr) (xs : List Str) (lo : Int) (hi wd : Option Int) (T2 t2 : Addr) (xs2 : List Str) (lo2 : Int) (hi2 wd2 : Option Int) (r1 p1 r2 p2 : Addr) (G : Hp) : Prop where
  hdr : Dr p qq ms G
  hP : Parts G T t xs lo hi wd
  hP2 : Parts G T2 t2 xs2 lo2 hi2 wd2
  hR : RuleAt G R r1 p1 xs lo hi wd
  hR2 : RuleAt G R r2 p2 xs2 lo2 hi2 wd2
  ne : r1 ≠ r2
theorem Two.same {p qq : Addr} {ms : List Int} {R T t : Addr} {xs : List Str} {lo : Int} {hi wd : Option Int} {T2 t2 : Addr} {xs2 : List Str} {lo2 : Int} {hi2 wd2 : Option Int} {r1 p1 r2 p2 : Addr} {G G' : Hp} (h : Two p qq ms R T t xs lo hi wd T2 t2 xs2 lo2 hi2 wd2 r1 p1 r2 p2 G) (e : Same G G') : Two p qq ms R T t xs lo hi wd T2 t2 xs2 lo2 hi2 wd2 r1 p1 r2 p2 G' :=
  ⟨h.hdr.same e, h.hP.same e, h.hP2.same e, h.hR.same e, h.hR2.same e, h.ne⟩
def Atom (v : V) : Prop := (∃ b, v = .bl b) ∨ ∃ x, v = .str x
theorem lk_atoms {H : Hp} {n : Nat} {a b : Addr} {vs : List V} (h1 : H a = some (.lst vs)) (h2 : H b = some (.lst vs)) (hl : vs.length ≤ 1001) (hv : ∀ v ∈ vs, Atom v) : Lk K H (n + 1) (.ref a) (.ref b) :=
  .lst (SqL.of h1) (SqL.of h2) rfl hl (fun i x y hx hy => by
    rw [hx] at hy
    obtain rfl : x = y := Option.some.inj hy
    rcases hv x (List.mem_of_getElem? hx) with ⟨c, rfl⟩ | ⟨c, rfl⟩
    · exact .bl c
    · exact .str c)
theorem sameR_comm (ys ys2 : List Str) (lo lo2 : Int) (hi hi2 sp sp2 : Option Int) : sameR ys2 ys lo2 lo hi2 hi sp2 sp = sameR ys ys2 lo lo2 hi hi2 sp sp2 := by
  unfold sameR
  rw [show decide (ys2 = ys) = decide (ys = ys2) from decide_eq_decide.mpr eq_comm, show decide (lo2 = lo) = decide (lo = lo2) from decide_eq_decide.mpr eq_comm, show decide (hi2 = hi) = decide (hi = hi2) from decide_eq_decide.mpr eq_comm, show decide (sp2 = sp) = decide (sp = sp2) from decide_eq_decide.mpr eq_comm]
theorem sameR_refl (ys : List Str) (lo : Int) (hi sp : Option Int) : sameR ys ys lo lo hi hi sp sp = true := by
  unfold sameR
  rw [decide_eq_true rfl, decide_eq_true rfl, decide_eq_true rfl, decide_eq_true rfl]
  rfl
def oD : Option Int → PyData
  | none => .none
  | some i => .int i
theorem dp_oD {H : Hp} (o : Option Int) : Dp K H (vI o) (oD o) := by
  cases o with
  | none => exact .non
  | some i => exact .int i
def partsD (xs : List Str) (lo : Int) (hi wd : Option Int) : PyData := .tuple [.list (xs.map PyData.str), .int lo, oD hi, oD wd]
theorem canlay_strs (ns : List Str) (hs : Short ns) : PyData.canLayAll0 (ns.map PyData.str) = true := by
  induction ns with
  | nil => simp [PyData.canLayAll0]
  | cons a r ih =>
    have h5 := (hs a (List.mem_cons_self ..)).2
    have h6 := ih fun x hx => hs x (List.mem_cons_of_mem _ hx)
    simp [PyData.canLayAll0, PyData.canLay0] at *
    exact ⟨h5, h6⟩
theorem canlay_oD (o : Option Int) : PyData.canLay0 (oD o) = true := by cases o <;> simp [oD, PyData.canLay0]
theorem depth_oD (o : Option Int) : PyData.depth (oD o) ≤ 1 := by cases o <;> simp [oD, PyData.depth]
theorem shaped_parts (xs : List Str) (lo : Int) (hi wd : Option Int) (hs : Short xs) : SeqAt.shaped (partsD xs lo hi wd) = true := by
  have c1 := canlay_strs xs hs
  have c2 := canlay_oD hi
  have c3 := canlay_oD wd
  have d1 := depth_strs xs
  have d2 := depth_oD hi
  have d3 := depth_oD wd
  show (PyData.canLay0 (partsD xs lo hi wd) && decide (PyData.depth (partsD xs lo hi wd) ≤ 64)) = true
  rw [Bool.and_eq_true]
  refine ⟨?_, decide_eq_true ?_⟩
  · unfold partsD
    simp [PyData.canLay0, PyData.canLayAll0, c1, c2, c3]
  · unfold partsD
    simp only [PyData.depth, PyData.depthAll]
    omega
theorem eqv_oD (a b : Option Int) : PyData.eqv (oD a) (oD b) = decide (a = b) := by
  cases a with
  | none =>
    cases b with
    | none => rfl
    | some j => rfl
  | some i =>
    cases b with
    | none => rfl
    | some j =>
      show (i == j) = _
      by_cases h : i = j
      · subst h
        simp
      · rw [decide_eq_false (fun z => h (Option.some.inj z)), beq_eq_false_iff_ne.mpr h]
theorem eqv_parts (xs xs2 : List Str) (lo lo2 : Int) (hi hi2 wd wd2 : Option Int) : PyData.eqv (partsD xs lo hi wd) (partsD xs2 lo2 hi2 wd2) = sameR xs xs2 lo lo2 hi hi2 wd wd2 := by
  show (PyData.eqv (.list (xs.map PyData.str)) (.list (xs2.map PyData.str)) && (PyData.eqv (.int lo) (.int lo2) && (PyData.eqv (oD hi) (oD hi2) && (PyData.eqv (oD wd) (oD wd2) && true)))) = _
  rw [eqv_list, eqv_oD, eqv_oD, Bool.and_true]
  have e : PyData.eqv (.int lo) (.int lo2) = decide (lo = lo2) := by
    show (lo == lo2) = decide (lo = lo2)
    by_cases h : lo = lo2
    · subst h
      simp
    · rw [decide_eq_false h, beq_eq_false_iff_ne.mpr h]
  rw [e]
  rfl
/-- all that the law calls -/
structure Calls (P : Program) (w : World) (K : PySem.W.Frag) (mg : Str → Option Value) (base : Heap) (R C : Addr) : Prop where
  B : BN mg
  srt : mg "sorted" = none
  rpr : mg "repr" = none
  op : UseD P w K mg base CX0 1 "_law_open" ["_law_script"] (spOP K)
  pu : UseD P w K mg base CX0 1 "_law_pull" ["_law_draw", "_law_total_of"] spPU
  pa : UseD P w K mg base CX0 5 "_law_parts" ["_law_draw"] (spPA 6)
  ne : UseD P w K mg base CX0 2 "_law_near" ["_law_draw", "_law_r"] spNE
  rl : UseD P w K mg base CX0 7 "_law_rule" ["_law_r"] (spRL R)
  rt : UseD P w K mg base CX0 1 "_law_rule_text" ["_law_r"] spRT
  sr : UseD P w K mg base CX0 5 "_law_same_rule" ["_law_made", "_law_r"] (spSR R)
  lk : UseD P w K mg base CX0 4 "_law_like" ["_law_found", "_law_due"] (spLK K 3)
  kk : RMk P w K mg base R C
  c : RuleC K R
  i : IsiC K R
  eq : ∃ (f : Addr) (fd : FuncData), FnOk P w K mg base CX0 1 f fd ["self", "other"] (spEQ K R) ∧ PySem.W.findIn K (.ref R) "__eq__" = some (some (.ref f)) ∧ PySem.W.isFn K (.ref f) = true ∧ Binds K fd ["self", "other"] []
  st : ∃ (f : Addr) (fd : FuncData), FnOk P w K mg base CX0 2 f fd ["self"] (spST R) ∧ PySem.W.findIn K (.ref R) "__str__" = some (some (.ref f)) ∧ PySem.W.isFn K (.ref f) = true ∧ Binds K fd ["self"] []
  rp : ∃ (f : Addr) (fd : FuncData), FnG P w K mg base 1 f fd ["self"] (spRP R) ∧ PySem.W.findIn K (.ref R) "__repr__" = some (some (.ref f)) ∧ PySem.W.isFn K (.ref f) = true ∧ Binds K fd ["self"] []
  nes : PySem.W.findIn K (.ref R) "__ne__" = some (some (.builtin "object.__ne__"))
  nfI : PySem.W.notFirst K R (.type "int") = true
  nfT : PySem.W.notFirst K R (.type "tuple") = true
  nfS : PySem.W.notFirst K R (.type "str") = true
  kI : PySem.W.kitOne K (.type "int") (.ref R) = some false
  kT : PySem.W.kitOne K (.type "tuple") (.ref R) = some false
  kS : PySem.W.kitOne K (.type "str") (.ref R) = some false
def spLW (K : PySem.W.Frag) : Sp := fun vs H Q _ => ∃ (a : Addr) (ns : List Int), vs = [.ref a] ∧ SqL K H a (ns.map V.int) ∧ ∀ H', Q (.bl true) H'
theorem drawn_small {xs : List Str} {lo : Int} {hi wd : Option Int} (h : Drawn xs lo hi wd) : ShortT xs ∧ Small lo ∧ SmallO hi ∧ SmallO wd := by
  obtain ⟨l0, l3, hh, hw⟩ := parts_inv h.b
  refine ⟨⟨by have := h.l6; omega, h.g.1⟩, ⟨l0, by omega⟩, fun g e => ?_, fun g e => ?_⟩
  · have := hh g e
    exact ⟨by omega, by omega⟩
  · have := hw g e
    exact ⟨by omega, by omega⟩
theorem cut_parts (t : V) (lo : Int) (hi wd : Option Int) : cutV [t, .int lo, vI hi, vI wd] (some 1) none = [.int lo, vI hi, vI wd] := rfl
theorem ok_lw {f R C : Addr} {fd : FuncData} (F : Fun K "law" "law" sLW f fd) (Z : Calls P w K mg base R C) : FnG P w K mg base 9 f fd ["_law_script"] (spLW K) := by
  obtain ⟨fOP, fdOP, GOP, opm, opk, opb⟩ := Z.op.ex
  obtain ⟨fPU, fdPU, GPU, pum, puk, pub⟩ := Z.pu.ex
  obtain ⟨fPA, fdPA, GPA, pam, pak, pab⟩ := Z.pa.ex
  obtain ⟨fNE, fdNE, GNE, nem, nek, neb⟩ := Z.ne.ex
  obtain ⟨fRL, fdRL, GRL, rlm, rlk, rlb⟩ := Z.rl.ex
  obtain ⟨fRT, fdRT, GRT, rtm, rtk, rtb⟩ := Z.rt.ex
  obtain ⟨fSR, fdSR, GSR, srm, srk, srb⟩ := Z.sr.ex
  obtain ⟨fLK, fdLK, GLK, lkm, lkk, lkb⟩ := Z.lk.ex
  obtain ⟨fI, fdI, GI, MI, FI⟩ := Z.kk.ex
  have mR := Z.kk.mgR
  obtain ⟨dsA, vA, bA⟩ := bindsAll FI
  obtain ⟨fE, fdE, GE, eF, eI, eB⟩ := Z.eq
  obtain ⟨fS, fdS, GS, sF, sI, sB⟩ := Z.st
  obtain ⟨fG, fdG, GG, gF, gI, gB⟩ := Z.rp
  refine fnG_of F scLW (fun vs H Q E h => ?_) (fun cdv A outer s H vs Q E gd hr h => ?_)
  · obtain ⟨a, ns, rfl, _⟩ := h
    rfl
  · obtain ⟨a, ns, rfl, hS, q⟩ := h
    have r1 : Room 1 _ := hr.mono (by decide)
    have r2 : Room 2 _ := hr.mono (by decide)
    have r4 : Room 4 _ := hr.mono (by decide)
    have r5 : Room 5 _ := hr.mono (by decide)
    have r6 : Room 6 _ := hr.mono (by decide)
    have r7 : Room 7 _ := hr.mono (by decide)
    refine ⟨_, pss_cons (ps_set (i := 1) scLW.nd rfl (.inl rfl) (pe_call GOP r1 rfl opm opk opb .nil pass0 (pa_cons (pv 0) pa_nil)))
      (pss_cons (ps_for PassesOwn.never rfl (pi_range1 rfl Z.B.rng (pa_cons pe_int pa_nil)) (pg_name (i := 2) scLW.nd rfl (.inl rfl))
        (pss_cons (ps_set (i := 3) scLW.nd rfl (.inl rfl) (pe_call GPA r5 rfl pam pak pab .nil pass0 (pa_cons (pv 1) pa_nil)))
        (C8.pss_cut (ps_set (i := 4) scLW.nd rfl (.inl rfl) (pe_ifExp (pt_cmpR op_gt (pe_call GPU r1 rfl pum puk pub .nil pass0 (pa_cons (pv 1) (pa_cons pe_int pa_nil))) pe_int (nomark _)) (pe_call GNE r2 rfl nem nek neb .nil pass0 (pa_cons (pv 1) (pa_cons (pv 3) pa_nil))) (pe_call GPA r5 rfl pam pak pab .nil pass0 (pa_cons (pv 1) pa_nil))))
        (C8.pss_cut (ps_set (i := 5) scLW.nd rfl (.inl rfl) (pe_call GRL r7 rfl rlm rlk rlb .nil pass0 (pa_cons (pv 3) pa_nil)))
        (C8.pss_cut (ps_set (i := 6) scLW.nd rfl (.inl rfl) (pe_make MI GI r6 rfl mR bA vA passL (pa_cons (pe_revL (pe_callTy call_list_of (by rfl) Z.B.lst (by decide +kernel) (pa_cons (pe_ix ix_tup (pv 4) pe_int (fun _ _ => rfl)) pa_nil))) (pa_cons (pe_ix ix_tup (pv 4) pe_int (fun _ _ => rfl)) (pa_cons (pe_ix ix_tup (pv 4) pe_int (fun _ _ => rfl)) (pa_cons (pe_ix ix_tup (pv 4) pe_int (fun _ _ => rfl)) pa_nil))))))
        (C8.pss_cut (ps_set (i := 7) scLW.nd rfl (.inl rfl) (pe_cmpR (op_eqD hr.units) (pe_op op_catT (pe_tup (pa_cons (pe_callB cr_sortedST (by rfl) Z.srt (by decide +kernel) (pa_cons (pe_ix ix_tup (pv 3) pe_int (fun _ _ => rfl)) pa_nil)) pa_nil)) (pe_slice sl_tup (pv 3) (po_some pe_int) po_none))
          (pe_op op_catT (pe_tup (pa_cons (pe_callB cr_sortedST (by rfl) Z.srt (by decide +kernel) (pa_cons (pe_ix ix_tup (pv 4) pe_int (fun _ _ => rfl)) pa_nil)) pa_nil)) (pe_slice sl_tup (pv 4) (po_some pe_int) po_none)) (nomark _)))
        (C8.pss_cut (ps_if (pt_not (pt_val (pe_call GLK r4 rfl lkm lkk lkb .nil pass0 (pa_cons (pe_lst (pa_cons (pe_cmpR (op_eqOwn (own_of GE eF eI eB) r1) (pv 5) (pv 6) (nomark _)) (pa_cons (pe_cmpR (op_eqOwn (own_of GE eF eI eB) r1) (pv 6) (pv 5) (nomark _)) (pa_cons (pe_cmpR (op_neOwn (own_of GE eF eI eB) r2 Z.i.hm Z.nes) (pv 5) (pv 6) (nomark _)) (pa_cons (pe_cmpR (op_inOwn (own_of GE eF eI eB) r2) (pv 5) (pe_lst (pa_cons (pv 6) pa_nil)) (by rfl)) pa_nil)))))
          (pa_cons (pe_lst (pa_cons (pv 7) (pa_cons (pv 7) (pa_cons (pe_not (pv 7)) (pa_cons (pv 7) pa_nil))))) pa_nil))))) (pss_one (ps_ret pe_bl)) pss_nil)
        (C8.pss_cut (ps_if (PW.pt (pw_or (pt_not (pt_val (pe_call GSR r5 rfl srm srk srb .nil pass0 (pa_cons (pv 5) (pa_cons (pv 3) pa_nil))))) (pw_or1 (pt_not (pt_val (pe_call GSR r5 rfl srm srk srb .nil pass0 (pa_cons (pv 6) (pa_cons (pv 4) pa_nil)))))))) (pss_one (ps_ret pe_bl)) pss_nil)
        (C8.pss_cut (ps_if (pt_not (pt_val (pe_call GLK r4 rfl lkm lkk lkb .nil pass0 (pa_cons (pe_lst (pa_cons (pe_cmpR (op_eqOwn (own_of GE eF eI eB) r1) (pv 5) (pv 5) (nomark _)) (pa_cons (pe_cmpR (op_eqOwn (own_of GE eF eI eB) r1) (pv 5) pe_int (nomark _)) (pa_cons (pe_cmpR (op_eqOwn (own_of GE eF eI eB) r1) (pv 5) (pv 3) (nomark _)) (pa_cons (pe_cmpR (op_eqOwn (own_of GE eF eI eB) r1) (pv 5) (pe_callTy (cs_own (own_of GS sF sI sB) r4) (by rfl) Z.B.str (by decide +kernel) (pa_cons (pv 5) pa_nil)) (nomark _)) pa_nil)))))
          (pa_cons (pe_lst (pa_cons pe_bl (pa_cons pe_bl (pa_cons pe_bl (pa_cons pe_bl pa_nil))))) pa_nil))))) (pss_one (ps_ret pe_bl)) pss_nil)
        (C8.pss_cut (ps_set (i := 8) scLW.nd rfl (.inl rfl) (pe_op op_add_str (pe_op op_add_str (pe_op op_add_str pe_str (pe_callTy (cs_words gd hr.units) (by rfl) Z.B.str (by decide +kernel) (pa_cons (pe_callB cr_sortedST (by rfl) Z.srt (by decide +kernel) (pa_cons (pe_ix ix_tup (pv 3) pe_int (fun _ _ => rfl)) pa_nil)) pa_nil))) pe_str) (pe_callTy cs_opt (by rfl) Z.B.str (by decide +kernel) (pa_cons (pe_ix ix_tup (pv 3) pe_int (fun _ _ => rfl)) pa_nil))))
        (C8.pss_cut (ps_set (i := 8) scLW.nd rfl (.inl rfl) (pe_op op_add_str (pe_op op_add_str (pe_op op_add_str (pe_op op_add_str (pe_op op_add_str (pv 8) pe_str) (pe_callTy cs_opt (by rfl) Z.B.str (by decide +kernel) (pa_cons (pe_ix ix_tup (pv 3) pe_int (fun _ _ => rfl)) pa_nil))) pe_str) (pe_callTy cs_opt (by rfl) Z.B.str (by decide +kernel) (pa_cons (pe_ix ix_tup (pv 3) pe_int (fun _ _ => rfl)) pa_nil))) pe_str))
        (pss_one (ps_if (pt_not (pt_val (pe_call GLK r4 rfl lkm lkk lkb .nil pass0 (pa_cons (pe_lst (pa_cons (pe_callTy (cs_own (own_of GS sF sI sB) r4) (by rfl) Z.B.str (by decide +kernel) (pa_cons (pv 5) pa_nil)) (pa_cons (pe_callB (cr_own (own_ofG gd GG gF gI gB) r2) (by rfl) Z.rpr (by decide +kernel) (pa_cons (pv 5) pa_nil)) pa_nil)))
          (pa_cons (pe_lst (pa_cons (pe_call GRT r1 rfl rtm rtk rtb .nil pass0 (pa_cons (pv 3) pa_nil)) (pa_cons (pv 8) pa_nil))) pa_nil))))) (pss_one (ps_ret pe_bl)) pss_nil)))))))))))))
      (pss_one (ps_ret pe_bl))), ?_⟩
    refine ⟨.ref a, rfl, a, ns, rfl, hS, fun H1 p qq ms s1 np hD1 => ?_⟩
    refine ⟨4, rfl, by decide, by decide, for_range (lo := 0) (n := 4) (fun _ σ H2 => (∃ y2 y3 y4 y5 y6 y7 y8, σ = [some (.ref a), some (.ref p), y2, y3, y4, y5, y6, y7, y8]) ∧ Dr p qq ms H2)
      ⟨⟨none, none, none, none, none, none, none, rfl⟩, hD1⟩ (fun i σ H2 _ h => ?_) (fun σ H2 h => q H2)⟩
    obtain ⟨⟨y2, y3, y4, y5, y6, y7, y8, rfl⟩, hD2⟩ := h
    refine ⟨.ref p, rfl, p, qq, ms, rfl, hD2, fun T t xs lo hi wd H3 hx6 hsg hsx hpb _ _ hP3 g3 => ?_⟩
    have dr1 : Drawn xs lo hi wd := ⟨hx6, hsg, hsx, hpb⟩
    refine ⟨fun σ H4 => ∃ (T2 t2 : Addr) (xs2 : List Str) (lo2 : Int) (hi2 wd2 : Option Int), σ = [some (.ref a), some (.ref p), some (.int (0 + (i : Int))), some (.ref T), some (.ref T2), y5, y6, y7, y8] ∧ Drawn xs2 lo2 hi2 wd2 ∧ Parts H4 T t xs lo hi wd ∧ Parts H4 T2 t2 xs2 lo2 hi2 wd2 ∧ Dr p qq ms H4, ?_, ?_⟩
    · refine ⟨.ref p, rfl, p, qq, ms, 4, rfl, by decide, by decide, g3.dr, fun v H4 _ _ sx4 hD4 => ⟨_, _, rfl, rfl, _, rfl, ite2 (fun _ => ?_) (fun _ => ?_)⟩⟩
      · have g4 := (Go.refl g3.dr).next sx4 hD4
        have hP4 := hP3.go g3.dr g4
        exact ⟨.ref p, rfl, .ref T, rfl, p, qq, ms, T, t, xs, lo, hi, wd, rfl, hD4, hP4, dr1, fun T2 t2 xs2 lo2 hi2 wd2 H5 d2 hP5 g5 => ⟨T2, t2, xs2, lo2, hi2, wd2, rfl, d2, hP4.go hD4 g5, hP5, g5.dr⟩⟩
      · have g4 := (Go.refl g3.dr).next sx4 hD4
        have hP4 := hP3.go g3.dr g4
        exact ⟨.ref p, rfl, p, qq, ms, rfl, hD4, fun T2 t2 xs2 lo2 hi2 wd2 H5 a6 a7 a8 a9 _ _ hP5 g5 => ⟨T2, t2, xs2, lo2, hi2, wd2, rfl, ⟨a6, a7, a8, a9⟩, hP4.go hD4 g5, hP5, g5.dr⟩⟩
    rintro _ H4 ⟨T2, t2, xs2, lo2, hi2, wd2, rfl, dr2, hP4, hQ4, hD4⟩
    clear hP3 g3 hD2
    refine ⟨fun σ H5 => ∃ r1 p1, σ = [some (.ref a), some (.ref p), some (.int (0 + (i : Int))), some (.ref T), some (.ref T2), some (.ref r1), y6, y7, y8] ∧ Same H4 H5 ∧ RuleAt H5 R r1 p1 xs lo hi wd, ?_, ?_⟩
    · refine ⟨.ref T, rfl, T, t, xs, lo, hi, wd, rfl, hP4, by omega, dr1.g.1, dr1.b, fun r pw ys H5 s5 _ _ hR hpm hsr => ?_⟩
      obtain rfl : ys = xs := sortedS_one hpm hsr hsx
      exact ⟨r, pw, rfl, s5, hR⟩
    rintro _ H5 ⟨ra, pa, rfl, s5, hR5⟩
    refine ⟨fun σ H6 => ∃ rb pb, σ = [some (.ref a), some (.ref p), some (.int (0 + (i : Int))), some (.ref T), some (.ref T2), some (.ref ra), some (.ref rb), y7, y8] ∧ Two p qq ms R T t xs lo hi wd T2 t2 xs2 lo2 hi2 wd2 ra pa rb pb H6, ?_, ?_⟩
    · have hQ5 := hQ4.same s5
      have sq : SqT K H5 T2 [.ref t2, .int lo2, vI hi2, vI wd2] := .inl (.inl hQ5.1)
      refine ⟨.ref T2, rfl, T2, _, 0, .ref t2, rfl, rfl, sq, rfl, t2, _, rfl, .inr (.inl (.inl hQ5.2)), fun l nl => ⟨l, _, rfl, SqL.of upd_same, fun l2 nl2 => ?_⟩⟩
      have s6 := (same_new (o := .lst (xs2.map V.str)) nl).trans (same_new (o := .lst (xs2.map V.str).reverse) nl2)
      have sq2 := Same.tup s6 sq
      refine ⟨.ref T2, rfl, T2, _, 1, .int lo2, rfl, rfl, sq2, rfl, .ref T2, rfl, T2, _, 2, vI hi2, rfl, rfl, sq2, rfl, .ref T2, rfl, T2, _, 3, vI wd2, rfl, rfl, sq2, rfl, fun x dx nx nd ne => ?_⟩
      have e2 : (xs2.map V.str).reverse = xs2.reverse.map V.str := List.map_reverse.symm
      rw [e2] at nx nd s6 ⊢
      have sI : Same (upd (upd H5 l (.lst (xs2.map V.str))) l2 (.lst (xs2.reverse.map V.str))) (upd (upd (upd (upd H5 l (.lst (xs2.map V.str))) l2 (.lst (xs2.reverse.map V.str))) dx (.own x)) x (.ins R dx [])) := (same_new nd).trans (same_new (by rw [upd_ne (fun z => ne z.symm)]; exact nx))
      have pr : xs2.reverse.Perm xs2 := List.reverse_perm xs2
      have gr : Good xs2.reverse := ⟨pr.nodup_iff.mpr dr2.g.2.1, fun z hz => dr2.g.2.2 z (pr.mem_iff.mp hz)⟩
      obtain ⟨i0, i3, ih, iw⟩ := parts_inv dr2.b
      have hb : partBad xs2.reverse lo2 hi2 wd2 = none := parts_ok (by rw [List.length_reverse]; exact dr2.l6) gr i0 (by omega) ih iw
      refine ⟨x, dx, .ref l2, xs2.reverse, lo2, hi2, wd2, rfl, upd_same, .inr ⟨l2, rfl, sI _ _ upd_same⟩, by rw [List.length_reverse]; have := dr2.l6; omega, fun z hz => (dr2.g.1 z (pr.mem_iff.mp hz)).1, fun _ ys pw H' hpm hsr npw fr hR => ⟨rfl, ?_⟩, fun s e => by rw [hb] at e; cases e⟩
      obtain rfl : ys = xs2 := sortedS_one (hpm.trans pr) hsr dr2.s
      have sm := s6.trans (made_same nx nd fr)
      have nxH : H5 x = none := s6.free nx
      obtain ⟨dy, hr1, _⟩ := id hR5
      exact ⟨x, pw, rfl, (hD4.same s5).same sm, (hP4.same s5).same sm, hQ5.same sm, hR5.same sm, hR, ne_of_none hr1 nxH⟩
    rintro _ H6 ⟨rb, pb, rfl, W⟩
    clear hR5 s5 hP4 hQ4 hD4
    refine ⟨fun σ H7 => σ = [some (.ref a), some (.ref p), some (.int (0 + (i : Int))), some (.ref T), some (.ref T2), some (.ref ra), some (.ref rb), some (.bl (sameR xs xs2 lo lo2 hi hi2 wd wd2)), y8] ∧ Two p qq ms R T t xs lo hi wd T2 t2 xs2 lo2 hi2 wd2 ra pa rb pb H7, ?_, ?_⟩
    · have sq : SqT K H6 T [.ref t, .int lo, vI hi, vI wd] := .inl (.inl W.hP.1)
      refine ⟨.ref T, rfl, T, _, 0, .ref t, rfl, rfl, sq, rfl, t, xs, rfl, .inr (.inl (.inl W.hP.2)), by omega, fun zs c hz hzs nc => ?_⟩
      obtain rfl : zs = xs := sortedS_one hz hzs hsx
      refine ⟨by show 1 ≤ sizeLine; decide, fun u1 n1 => ?_⟩
      have sA := (same_new (o := .lst (zs.map V.str)) nc).trans (same_new (o := .tup [.ref c]) n1)
      refine ⟨.ref T, rfl, 1, rfl, T, _, rfl, Same.tup sA sq, (fun z => by have := z.1; cases this), fun u2 n2 => ?_⟩
      rw [cut_parts]
      have sB := same_new (o := .tup [.int lo, vI hi, vI wd]) n2
      refine ⟨u1, u2, [.ref c], [.int lo, vI hi, vI wd], rfl, rfl, .inl (.inl (sB _ _ upd_same)), .inl (.inl upd_same), (fun z => by cases z), by show 1 + 3 ≤ sizeLine; decide, (fun z => by cases z), fun _ u3 n3 => ?_⟩
      have sC := same_new (o := .tup ([.ref c] ++ [.int lo, vI hi, vI wd])) n3
      have s3 := (sA.trans sB).trans sC
      have W3 := W.same s3
      have hc3 := (sB.trans sC) _ _ ((same_new n1) _ _ (upd_same (H := H6) (a := c) (o := .lst (zs.map V.str))))
      have sq2 : SqT K _ T2 [.ref t2, .int lo2, vI hi2, vI wd2] := .inl (.inl W3.hP2.1)
      refine ⟨.ref T2, rfl, T2, _, 0, .ref t2, rfl, rfl, sq2, rfl, t2, xs2, rfl, .inr (.inl (.inl W3.hP2.2)), by have := dr2.l6; omega, fun zs2 c2 hz2 hzs2 nc2 => ?_⟩
      obtain rfl : zs2 = xs2 := sortedS_one hz2 hzs2 dr2.s
      refine ⟨by show 1 ≤ sizeLine; decide, fun v1 m1 => ?_⟩
      have tA := (same_new (o := .lst (zs2.map V.str)) nc2).trans (same_new (o := .tup [.ref c2]) m1)
      refine ⟨.ref T2, rfl, 1, rfl, T2, _, rfl, Same.tup tA sq2, (fun z => by have := z.1; cases this), fun v2 m2 => ?_⟩
      rw [cut_parts]
      have tB := same_new (o := .tup [.int lo2, vI hi2, vI wd2]) m2
      refine ⟨v1, v2, [.ref c2], [.int lo2, vI hi2, vI wd2], rfl, rfl, .inl (.inl (tB _ _ upd_same)), .inl (.inl upd_same), (fun z => by cases z), by show 1 + 3 ≤ sizeLine; decide, (fun z => by cases z), fun _ v3 m3 => ?_⟩
      have tC := same_new (o := .tup ([.ref c2] ++ [.int lo2, vI hi2, vI wd2])) m3
      have t3 := (tA.trans tB).trans tC
      have hc2 := (tB.trans tC) _ _ ((same_new m1) _ _ (upd_same (a := c2) (o := .lst (zs2.map V.str))))
      refine ⟨partsD zs lo hi wd, partsD zs2 lo2 hi2 wd2, .tup (.inl (.inl (t3 _ _ upd_same))) (.cons (.lst (SqL.of (t3 _ _ hc3)) (words_dp zs)) (.cons (.int lo) (.cons (dp_oD hi) (.cons (dp_oD wd) .nil)))),
        .tup (.inl (.inl upd_same)) (.cons (.lst (SqL.of hc2) (words_dp zs2)) (.cons (.int lo2) (.cons (dp_oD hi2) (.cons (dp_oD wd2) .nil)))), shaped_parts _ _ _ _ dr1.g.1, shaped_parts _ _ _ _ dr2.g.1, ?_⟩
      rw [eqv_parts]
      exact ⟨rfl, W3.same t3⟩
    rintro _ H7 ⟨rfl, W7⟩
    clear W
    have nf : PySem.W.notFirst K R (.ref R) = true := by simp [PySem.W.notFirst]
    refine ⟨fun σ H8 => σ = [some (.ref a), some (.ref p), some (.int (0 + (i : Int))), some (.ref T), some (.ref T2), some (.ref ra), some (.ref rb), some (.bl (sameR xs xs2 lo lo2 hi hi2 wd wd2)), y8] ∧ Two p qq ms R T t xs lo hi wd T2 t2 xs2 lo2 hi2 wd2 ra pa rb pb H8, ?_, ?_⟩
    · obtain ⟨dxa, ha, _⟩ := id W7.hR
      obtain ⟨dxb, hb, _⟩ := id W7.hR2
      have tya := ty_rule Z.c Z.i W7.hR
      have tyb := ty_rule Z.c Z.i W7.hR2
      refine ⟨_, rfl, _, rfl, ra, dxa, _, _, rfl, ha, tyb, nf, ra, pa, xs, lo, hi, wd, W7.hR, dr1.g.1, .inl ⟨rb, pb, xs2, lo2, hi2, wd2, rfl, W7.hR2, dr2.g.1, ?_⟩⟩
      refine ⟨_, rfl, _, rfl, rb, dxb, _, _, rfl, hb, tya, nf, rb, pb, xs2, lo2, hi2, wd2, W7.hR2, dr2.g.1, .inl ⟨ra, pa, xs, lo, hi, wd, rfl, W7.hR, dr1.g.1, ?_⟩⟩
      refine ⟨_, rfl, _, rfl, ra, dxa, _, _, rfl, ha, tyb, nf, ra, pa, xs, lo, hi, wd, W7.hR, dr1.g.1, .inl ⟨rb, pb, xs2, lo2, hi2, wd2, rfl, W7.hR2, dr2.g.1, _, rfl, ?_⟩⟩
      refine ⟨_, rfl, _, rfl, by show 1 ≤ sizeLine; decide, fun l0 n0 => ?_⟩
      have sA := same_new (o := .lst [.ref rb]) n0
      have WA := W7.same sA
      refine ⟨l0, rb, dxb, _, ra, _, rfl, upd_same, sA _ _ hb, rfl, W7.ne.symm, ty_rule Z.c Z.i WA.hR, nf, rb, pb, xs2, lo2, hi2, wd2, WA.hR2, dr2.g.1, .inl ⟨ra, pa, xs, lo, hi, wd, rfl, WA.hR, dr1.g.1, _, rfl, upd_same, ?_⟩⟩
      refine ⟨by show 4 ≤ sizeLine; decide, fun l1 n1 => ⟨_, rfl, _, rfl, _, rfl, _, rfl, _, rfl, by show 4 ≤ sizeLine; decide, fun l2 n2 => ?_⟩⟩
      have sB := same_new (o := .lst [.bl (sameR xs xs2 lo lo2 hi hi2 wd wd2), .bl (sameR xs2 xs lo2 lo hi2 hi wd2 wd), .bl (!sameR xs xs2 lo lo2 hi hi2 wd wd2), .bl (sameR xs2 xs lo2 lo hi2 hi wd2 wd)]) n1
      have sC := same_new (o := .lst [.bl (sameR xs xs2 lo lo2 hi hi2 wd wd2), .bl (sameR xs xs2 lo lo2 hi hi2 wd wd2), .bl (!sameR xs xs2 lo lo2 hi hi2 wd wd2), .bl (sameR xs xs2 lo lo2 hi hi2 wd wd2)]) n2
      refine ⟨.ref l1, .ref l2, rfl, lk_atoms (vs := [.bl (sameR xs xs2 lo lo2 hi hi2 wd wd2), .bl (sameR xs xs2 lo lo2 hi hi2 wd wd2), .bl (!sameR xs xs2 lo lo2 hi hi2 wd wd2), .bl (sameR xs xs2 lo lo2 hi hi2 wd wd2)]) ?_ upd_same (by show 4 ≤ 1001; decide) (fun v hv => .inl ?_), fun H' sm => ⟨_, rfl, iteF ⟨rfl, (WA.same (sB.trans sC)).same sm⟩⟩⟩
      · refine (sC _ _ upd_same).trans ?_
        rw [sameR_comm xs xs2 lo lo2 hi hi2 wd wd2]
      · rcases List.mem_cons.mp hv with e | hv
        · exact ⟨_, e⟩
        rcases List.mem_cons.mp hv with e | hv
        · exact ⟨_, e⟩
        rcases List.mem_cons.mp hv with e | hv
        · exact ⟨_, e⟩
        exact ⟨_, List.mem_singleton.mp hv⟩
    rintro _ H8 ⟨rfl, W8⟩
    clear W7
    refine ⟨fun σ H9 => σ = [some (.ref a), some (.ref p), some (.int (0 + (i : Int))), some (.ref T), some (.ref T2), some (.ref ra), some (.ref rb), some (.bl (sameR xs xs2 lo lo2 hi hi2 wd wd2)), y8] ∧ Two p qq ms R T t xs lo hi wd T2 t2 xs2 lo2 hi2 wd2 ra pa rb pb H9, ?_, ?_⟩
    · refine ⟨_, rfl, _, rfl, ra, pa, T, t, xs, xs, lo, hi, wd, rfl, W8.hR, List.Perm.refl _, hsx, W8.hP, by omega, fun H9 s9 => ⟨_, rfl, iteF ?_⟩⟩
      have W9 := W8.same s9
      exact ⟨_, rfl, _, rfl, rb, pb, T2, t2, xs2, xs2, lo2, hi2, wd2, rfl, W9.hR2, List.Perm.refl _, dr2.s, W9.hP2, by have := dr2.l6; omega, fun H10 s10 => ⟨_, rfl, iteF ⟨rfl, W9.same s10⟩⟩⟩
    rintro _ H9 ⟨rfl, W9⟩
    clear W8
    obtain ⟨st1, sl1, sh1, sw1⟩ := drawn_small dr1
    refine ⟨fun σ H10 => σ = [some (.ref a), some (.ref p), some (.int (0 + (i : Int))), some (.ref T), some (.ref T2), some (.ref ra), some (.ref rb), some (.bl (sameR xs xs2 lo lo2 hi hi2 wd wd2)), y8] ∧ Two p qq ms R T t xs lo hi wd T2 t2 xs2 lo2 hi2 wd2 ra pa rb pb H10, ?_, ?_⟩
    · obtain ⟨dxa, ha, _⟩ := id W9.hR
      have tya := ty_rule Z.c Z.i W9.hR
      refine ⟨_, rfl, _, rfl, ra, dxa, _, _, rfl, ha, tya, nf, ra, pa, xs, lo, hi, wd, W9.hR, dr1.g.1, .inl ⟨ra, pa, xs, lo, hi, wd, rfl, W9.hR, dr1.g.1, ?_⟩⟩
      rw [sameR_refl]
      refine ⟨_, rfl, ra, dxa, _, _, rfl, ha, .base (.int 3), Z.nfI, ra, pa, xs, lo, hi, wd, W9.hR, dr1.g.1, .inr ⟨_, _, rfl, .base (.int 3), Z.kI, ?_⟩⟩
      refine ⟨_, rfl, _, rfl, ra, dxa, _, _, rfl, ha, ty_tup (.inl (.inl W9.hP.1)), Z.nfT, ra, pa, xs, lo, hi, wd, W9.hR, dr1.g.1, .inr ⟨_, _, rfl, ty_tup (.inl (.inl W9.hP.1)), Z.kT, ?_⟩⟩
      refine ⟨_, rfl, _, rfl, ra, dxa, _, rfl, ha, ra, pa, xs, lo, hi, wd, rfl, W9.hR, st1, sl1, sh1, sw1, fun H10 s10 => ⟨_, rfl, ?_⟩⟩
      have W10 := W9.same s10
      refine ⟨ra, dxa, _, _, rfl, s10 _ _ ha, .base (.str _), Z.nfS, ra, pa, xs, lo, hi, wd, W10.hR, dr1.g.1, .inr ⟨_, _, rfl, .base (.str _), Z.kS, ?_⟩⟩
      refine ⟨by show 4 ≤ sizeLine; decide, fun l1 n1 => ⟨by show 4 ≤ sizeLine; decide, fun l2 n2 => ?_⟩⟩
      have sB := same_new (o := .lst [.bl true, .bl false, .bl false, .bl false]) n1
      have sC := same_new (o := .lst [.bl true, .bl false, .bl false, .bl false]) n2
      refine ⟨.ref l1, .ref l2, rfl, lk_atoms (vs := [.bl true, .bl false, .bl false, .bl false]) (sC _ _ upd_same) upd_same (by show 4 ≤ 1001; decide) (fun v hv => .inl ?_), fun H' sm => ⟨_, rfl, iteF ⟨rfl, (W10.same (sB.trans sC)).same sm⟩⟩⟩
      rcases List.mem_cons.mp hv with e | hv
      · exact ⟨_, e⟩
      rcases List.mem_cons.mp hv with e | hv
      · exact ⟨_, e⟩
      rcases List.mem_cons.mp hv with e | hv
      · exact ⟨_, e⟩
      exact ⟨_, List.mem_singleton.mp hv⟩
    rintro _ H10 ⟨rfl, W10⟩
    clear W9
    have slo : SmallO (some lo) := fun j e => by rw [← Option.some.inj e]; exact sl1
    have c1 := words_len st1
    have c2 := optT_len slo
    have c3 := optT_len sh1
    have c4 := optT_len sw1
    have k1 : (Str.ofString "Rule(").length = 5 := rfl
    have k2 : (Str.ofString ", low=").length = 6 := rfl
    have k3 : (Str.ofString ", high=").length = 7 := rfl
    have k4 : (Str.ofString ", span=").length = 7 := rfl
    have k5 : (Str.ofString ")").length = 1 := rfl
    have big : 800000 ≤ sizeLine := by decide
    refine ⟨fun σ H11 => ∃ z : Str, σ = [some (.ref a), some (.ref p), some (.int (0 + (i : Int))), some (.ref T), some (.ref T2), some (.ref ra), some (.ref rb), some (.bl (sameR xs xs2 lo lo2 hi hi2 wd wd2)), some (.str z)] ∧ z = (((Str.ofString "Rule(" ++ wordsText xs) ++ Str.ofString ", low=") ++ optText (some lo)) ∧ Two p qq ms R T t xs lo hi wd T2 t2 xs2 lo2 hi2 wd2 ra pa rb pb H11, ?_, ?_⟩
    · have sq : SqT K H10 T [.ref t, .int lo, vI hi, vI wd] := .inl (.inl W10.hP.1)
      refine ⟨.ref T, rfl, T, _, 0, .ref t, rfl, rfl, sq, rfl, t, xs, rfl, .inr (.inl (.inl W10.hP.2)), by omega, fun zs c hz hzs nc => ?_⟩
      obtain rfl : zs = xs := sortedS_one hz hzs hsx
      have sA := same_new (o := .lst (zs.map V.str)) nc
      refine ⟨c, zs, rfl, SqL.of upd_same, st1, _, _, rfl, rfl, by omega, _, _, rfl, rfl, by rw [len_app]; omega, .ref T, rfl, T, _, 1, .int lo, rfl, rfl, Same.tup sA sq, rfl, some lo, rfl, (fun j e => small_lg (slo j e)), _, _, rfl, rfl, by rw [len_app, len_app]; omega, _, rfl, rfl, W10.same sA⟩
    rintro _ H11 ⟨z1, rfl, ez1, W11⟩
    have lz1 : z1.length ≤ 710000 := by
      rw [ez1, len_app, len_app, len_app]
      omega
    clear W10
    refine ⟨fun σ H12 => ∃ z : Str, σ = [some (.ref a), some (.ref p), some (.int (0 + (i : Int))), some (.ref T), some (.ref T2), some (.ref ra), some (.ref rb), some (.bl (sameR xs xs2 lo lo2 hi hi2 wd wd2)), some (.str z)] ∧ tl z = reprL xs lo hi wd ∧ Two p qq ms R T t xs lo hi wd T2 t2 xs2 lo2 hi2 wd2 ra pa rb pb H12, ?_, ?_⟩
    · have sq : SqT K H11 T [.ref t, .int lo, vI hi, vI wd] := .inl (.inl W11.hP.1)
      refine ⟨_, rfl, _, _, rfl, rfl, by omega, .ref T, rfl, T, _, 2, vI hi, rfl, rfl, sq, rfl, hi, by rw [vI_vO], (fun j e => small_lg (sh1 j e)), _, _, rfl, rfl, by rw [len_app]; omega, _, _, rfl, rfl, by rw [len_app, len_app]; omega, .ref T, rfl, T, _, 3, vI wd, rfl, rfl, sq, rfl, wd, by rw [vI_vO], (fun j e => small_lg (sw1 j e)), _, _, rfl, rfl, by rw [len_app, len_app, len_app]; omega, _, _, rfl, rfl, by rw [len_app, len_app, len_app, len_app]; omega, _, rfl, ?_, W11⟩
      rw [ez1]
      simp only [tl_append]
      unfold reprL
      simp only [List.append_assoc]
    rintro _ H12 ⟨z2, rfl, ez2, W12⟩
    clear W11
    obtain ⟨dxa, ha, _⟩ := id W12.hR
    refine ⟨_, rfl, ra, dxa, _, rfl, ha, ra, pa, xs, lo, hi, wd, rfl, W12.hR, st1, sl1, sh1, sw1, fun H13 s13 => ⟨_, rfl, ?_⟩⟩
    have W13 := W12.same s13
    refine ⟨_, rfl, ra, dxa, _, rfl, s13 _ _ ha, ra, pa, xs, lo, hi, wd, rfl, W13.hR, st1, sl1, sh1, sw1, fun z3 ez3 => ⟨_, rfl, ?_⟩⟩
    obtain rfl : z3 = z2 := ext_tl (ez3.trans ez2.symm)
    refine ⟨by show 2 ≤ sizeLine; decide, fun l1 n1 => ?_⟩
    have sB := same_new (o := .lst [.str (ruleT xs lo hi wd), .str z3]) n1
    have W14 := W13.same sB
    refine ⟨_, rfl, T, t, xs, lo, hi, wd, rfl, W14.hP, st1, hsx, sl1, sh1, sw1, fun H15 s15 => ⟨_, rfl, by show 2 ≤ sizeLine; decide, fun l2 n2 => ?_⟩⟩
    have sC := same_new (o := .lst [.str (ruleT xs lo hi wd), .str z3]) n2
    refine ⟨.ref l1, .ref l2, rfl, lk_atoms (vs := [.str (ruleT xs lo hi wd), .str z3]) (sC _ _ (s15 _ _ upd_same)) upd_same (by show 2 ≤ 1001; decide) (fun v hv => .inr ?_), fun H' sm => ⟨_, rfl, iteF ⟨⟨_, _, _, _, _, _, _, rfl⟩, ((W14.same s15).same (sC.trans sm)).hdr⟩⟩⟩
    rcases List.mem_cons.mp hv with e | hv
    · exact ⟨_, e⟩
    exact ⟨_, List.mem_singleton.mp hv⟩
end
end K04

set_option Elab.async false
set_option linter.all false
set_option maxRecDepth 100000
set_option maxHeartbeats 4000000
namespace K04
open PySem PySem.Spec PyProof.Rows L2 Pw TL
section
variable {w : World} {K : PySem.W.Frag} {mg : Str → Option Value} {base : Heap}
/-! BadRule's __init__ -/
abbrev sI1 : Stmt := inClass (topS 3) 0
theorem err_rule {C fI cc cda : Addr} {kV doc pm ct oc : Value} {an od : Option Addr} {osl : Array (Option Value)} (T : SupC PySem.Challenge.pw_pulsewright_k04_rules_as_objects K mg C fI cc cda "part")
    (lk : K.lookup fI = some ⟨oc, od, .func (PySem.W.ksFn "__init__" "BadRule.__init__" (defArgs sI1) (defBody sI1) (defScope sI1) .none kV doc pm an (.ref cda) ct cc), osl⟩) (hcd : PySem.W.codeIn K (.ref cda) "BadRule.__init__" = true)
    (gC : mg "BadRule" = some (.ref C)) (iC : PySem.W.findIn K (.ref C) "__init__" = some (some (.ref fI))) (tI : PySem.W.typeIn K (.ref fI) = some (.type "function")) :
    ErrOk PySem.Challenge.pw_pulsewright_k04_rules_as_objects w K mg base "BadRule" "part" C okStr := by
  refine ⟨T.oex, gC, fI, _, fn_sup (k := 0) (by decide) (by decide) (by decide) (by decide) (by decide) T rfl lk hcd (fun X hN hS => ?_) (fun env => rfl), Binds.all (fun us hl => match us, hl with | [_, _], _ => rfl), iC, tI⟩
  have h1 : X.N[1]? = some (Str.ofString "part") := by
    rw [hN]
    rfl
  have h2 : Vis X.env.scope (Str.ofString "part") := by
    rw [hS]
    exact .inl rfl
  refine ⟨_, pe_joined (PJ.cons pe_str (PJ.cons (pe_fmt (pe_var (i := 1) h1 h2)) PJ.nil)), fun a v H Q hv hq => ?_⟩
  obtain ⟨s, rfl, hs⟩ := hv
  refine ⟨_, rfl, by decide, _, rfl, .inl ⟨s, rfl, by rw [len_tl]; exact Nat.le_trans hs (by decide), _, rfl, ?_, hq _⟩⟩
  rw [len_tl, tl_append, List.length_append, ← len_tl]
  exact Nat.le_trans (Nat.add_le_add (by decide : _ ≤ 40) hs) (by decide)
theorem exm_of {K : PySem.W.Frag} {S c : Addr} {b : Bool} (h1 : PySem.W.subIn K (.ref c) (.type "BaseException") = some true) (h2 : PySem.W.isClsIn K c = true) (h3 : PySem.W.typeIn K (.ref c) = some (.type "type")) (h4 : PySem.W.subIn K (.ref S) (.ref c) = some b) : PySem.W.exmOne K (.ref S) (.ref c) = some b := by
  have a1 : (PySem.W.subIn K (.ref c) (.type "BaseException") == some true) = true := by rw [h1] <;> rfl
  have a2 : ((PySem.W.clsIn K c).isSome && PySem.W.typeIn K (.ref c) == some (.type "type")) = true := by
    have a3 : (PySem.W.clsIn K c).isSome = true := h2
    rw [a3, h3] <;> rfl
  unfold PySem.W.exmOne
  first
    | (rw [if_pos a1]; show (if ((PySem.W.clsIn K c).isSome && PySem.W.typeIn K (.ref c) == some (.type "type")) = true then PySem.W.subIn K (.ref S) (.ref c) else none) = some b; rw [if_pos a2]; exact h4)
    | simp [a1, a2, h4]
end
section
theorem kit_me {K : PySem.W.Frag} (R : Addr) : PySem.W.kitOne K (.ref R) (.ref R) = some true := by
  unfold PySem.W.kitOne
  rw [if_pos (by simp)]
theorem kit_no {K : PySem.W.Frag} {R : Addr} {T : String} (h1 : PySem.W.isClsIn K R = true) (h2 : PySem.W.typeIn K (.ref R) = some (.type "type")) (h3 : PySem.W.subIn K (.type T) (.ref R) = some false) : PySem.W.kitOne K (.type T) (.ref R) = some false := by
  have a1 : (PySem.W.clsIn K R).isSome = true := h1
  have a2 : ((PySem.W.clsIn K R).isSome && PySem.W.typeIn K (.ref R) == some (.type "type")) = true := by
    rw [a1, h2]
    rfl
  unfold PySem.W.kitOne
  rw [if_neg (by simp)]
  show (if ((PySem.W.clsIn K R).isSome && PySem.W.typeIn K (.ref R) == some (.type "type")) = true then PySem.W.subIn K (.type T) (.ref R) else none) = some false
  rw [if_pos a2]
  exact h3
end
theorem all_mk {w : World} {K : PySem.W.Frag} {h : Heap} {mg : Str → Option Value} {fa : Addr} (X : K.In h) (G : h.Ns mainGlobals mg) (hfa : mg "law" = some (.ref fa))
    {fFS fIW fAW fCP fNT fWT fOP fPU fNU fLK fRO fWD fWS fPA fRL fSR fRT fNE fLW fMW fML fMH fMS fEQ fST fRP fRI C fI cc cda R Td  : Addr}
    {odFS anFS odIW anIW odAW anAW odCP anCP odNT anNT odWT anWT odOP anOP odPU anPU odNU anNU odLK anLK odRO anRO odWD anWD odWS anWS odPA anPA odRL anRL odSR anSR odRT anRT odNE anNE odLW anLW odMW anMW odML anML odMH anMH odMS anMS odEQ anEQ odST anST odRP anRP odRI anRI odI anI cdd cld dd odT : Option Addr} {slFS slIW slAW slCP slNT slWT slOP slPU slNU slLK slRO slWD slWS slPA slRL slSR slRT slNE slLW slMW slML slMH slMS slEQ slST slRP slRI slI ccs csl slT : Array (Option Value)}
    {ocFS kVFS dcFS pmFS ctFS ocIW kVIW dcIW pmIW ctIW ocAW kVAW dcAW pmAW ctAW ocCP kVCP dcCP pmCP ctCP ocNT kVNT dcNT pmNT ctNT ocWT kVWT dcWT pmWT ctWT ocOP kVOP dcOP pmOP ctOP ocPU kVPU dcPU pmPU ctPU ocNU kVNU dcNU pmNU ctNU ocLK kVLK dcLK pmLK ctLK ocRO kVRO dcRO pmRO ctRO ocWD kVWD dcWD pmWD ctWD ocWS kVWS dcWS pmWS ctWS ocPA kVPA dcPA pmPA ctPA ocRL kVRL dcRL pmRL ctRL ocSR kVSR dcSR pmSR ctSR ocRT kVRT dcRT pmRT ctRT ocNE kVNE dcNE pmNE ctNE ocLW kVLW dcLW pmLW ctLW ocMW kVMW dcMW pmMW ctMW ocML kVML dcML pmML ctML ocMH kVMH dcMH pmMH ctMH ocMS kVMS dcMS pmMS ctMS ocEQ kVEQ dcEQ pmEQ ctEQ ocST kVST dcST pmST ctST ocRP kVRP dcRP pmRP ctRP ocRI kVRI dcRI pmRI ctRI cdFS cdIW cdAW cdCP cdNT cdWT cdOP cdPU cdNU cdLK cdRO cdWD cdWS cdPA cdRL cdSR cdRT cdNE cdLW cdMW cdML cdMH cdMS cdEQ cdST cdRP cdRI ocI kVI dcI pmI ctI ccl cl ocT : Value}
    {nm q file : Str} {N : Addr} {bs bm sub : List Value} {sn : List Str} {ab : Bool} {col : Option Bool} {k0 k1 k2 k3 k5 : Option Value} {vsc : Array Value} {tf tk0 tk1 tk2 tk3 tk4 tk5 : Tok} {nT : Nat}
    (aFS : PySem.W.nsIn K mainGlobals "first_stranger" = some (some (.ref fFS)))
    (lFS : K.lookup fFS = some ⟨ocFS, odFS, .func (PySem.W.fnOf "first_stranger" "first_stranger" (defArgs sFS) (defBody sFS) (defScope sFS) .none kVFS dcFS pmFS anFS cdFS ctFS), slFS⟩)
    (cFS : PySem.W.codeIn K cdFS "first_stranger" = true)
    (kFS : PySem.W.keepIn K (.ref fFS) = true)
    (aIW : PySem.W.nsIn K mainGlobals "is_word" = some (some (.ref fIW)))
    (lIW : K.lookup fIW = some ⟨ocIW, odIW, .func (PySem.W.fnOf "is_word" "is_word" (defArgs sIW) (defBody sIW) (defScope sIW) .none kVIW dcIW pmIW anIW cdIW ctIW), slIW⟩)
    (cIW : PySem.W.codeIn K cdIW "is_word" = true)
    (kIW : PySem.W.keepIn K (.ref fIW) = true)
    (aAW : PySem.W.nsIn K mainGlobals "are_words" = some (some (.ref fAW)))
    (lAW : K.lookup fAW = some ⟨ocAW, odAW, .func (PySem.W.fnOf "are_words" "are_words" (defArgs sAW) (defBody sAW) (defScope sAW) .none kVAW dcAW pmAW anAW cdAW ctAW), slAW⟩)
    (cAW : PySem.W.codeIn K cdAW "are_words" = true)
    (kAW : PySem.W.keepIn K (.ref fAW) = true)
    (aCP : PySem.W.nsIn K mainGlobals "check_parts" = some (some (.ref fCP)))
    (lCP : K.lookup fCP = some ⟨ocCP, odCP, .func (PySem.W.fnOf "check_parts" "check_parts" (defArgs sCP) (defBody sCP) (defScope sCP) .none kVCP dcCP pmCP anCP cdCP ctCP), slCP⟩)
    (cCP : PySem.W.codeIn K cdCP "check_parts" = true)
    (kCP : PySem.W.keepIn K (.ref fCP) = true)
    (aNT : PySem.W.nsIn K mainGlobals "number_text" = some (some (.ref fNT)))
    (lNT : K.lookup fNT = some ⟨ocNT, odNT, .func (PySem.W.fnOf "number_text" "number_text" (defArgs sNT) (defBody sNT) (defScope sNT) .none kVNT dcNT pmNT anNT cdNT ctNT), slNT⟩)
    (cNT : PySem.W.codeIn K cdNT "number_text" = true)
    (kNT : PySem.W.keepIn K (.ref fNT) = true)
    (aWT : PySem.W.nsIn K mainGlobals "words_text" = some (some (.ref fWT)))
    (lWT : K.lookup fWT = some ⟨ocWT, odWT, .func (PySem.W.fnOf "words_text" "words_text" (defArgs sWT) (defBody sWT) (defScope sWT) .none kVWT dcWT pmWT anWT cdWT ctWT), slWT⟩)
    (cWT : PySem.W.codeIn K cdWT "words_text" = true)
    (kWT : PySem.W.keepIn K (.ref fWT) = true)
    (aOP : PySem.W.nsIn K mainGlobals "_law_open" = some (some (.ref fOP)))
    (lOP : K.lookup fOP = some ⟨ocOP, odOP, .func (PySem.W.fnOf "_law_open" "_law_open" (defArgs sOP) (defBody sOP) (defScope sOP) .none kVOP dcOP pmOP anOP cdOP ctOP), slOP⟩)
    (cOP : PySem.W.codeIn K cdOP "_law_open" = true)
    (kOP : PySem.W.keepIn K (.ref fOP) = true)
    (aPU : PySem.W.nsIn K mainGlobals "_law_pull" = some (some (.ref fPU)))
    (lPU : K.lookup fPU = some ⟨ocPU, odPU, .func (PySem.W.fnOf "_law_pull" "_law_pull" (defArgs sPU) (defBody sPU) (defScope sPU) .none kVPU dcPU pmPU anPU cdPU ctPU), slPU⟩)
    (cPU : PySem.W.codeIn K cdPU "_law_pull" = true)
    (kPU : PySem.W.keepIn K (.ref fPU) = true)
    (aNU : PySem.W.nsIn K mainGlobals "_law_num" = some (some (.ref fNU)))
    (lNU : K.lookup fNU = some ⟨ocNU, odNU, .func (PySem.W.fnOf "_law_num" "_law_num" (defArgs sNU) (defBody sNU) (defScope sNU) .none kVNU dcNU pmNU anNU cdNU ctNU), slNU⟩)
    (cNU : PySem.W.codeIn K cdNU "_law_num" = true)
    (kNU : PySem.W.keepIn K (.ref fNU) = true)
    (aLK : PySem.W.nsIn K mainGlobals "_law_like" = some (some (.ref fLK)))
    (lLK : K.lookup fLK = some ⟨ocLK, odLK, .func (PySem.W.fnOf "_law_like" "_law_like" (defArgs sLK) (defBody sLK) (defScope sLK) .none kVLK dcLK pmLK anLK cdLK ctLK), slLK⟩)
    (cLK : PySem.W.codeIn K cdLK "_law_like" = true)
    (kLK : PySem.W.keepIn K (.ref fLK) = true)
    (aRO : PySem.W.nsIn K mainGlobals "_law_row" = some (some (.ref fRO)))
    (lRO : K.lookup fRO = some ⟨ocRO, odRO, .func (PySem.W.fnOf "_law_row" "_law_row" (defArgs sRO) (defBody sRO) (defScope sRO) .none kVRO dcRO pmRO anRO cdRO ctRO), slRO⟩)
    (cRO : PySem.W.codeIn K cdRO "_law_row" = true)
    (kRO : PySem.W.keepIn K (.ref fRO) = true)
    (aWD : PySem.W.nsIn K mainGlobals "_law_word" = some (some (.ref fWD)))
    (lWD : K.lookup fWD = some ⟨ocWD, odWD, .func (PySem.W.fnOf "_law_word" "_law_word" (defArgs sWD) (defBody sWD) (defScope sWD) .none kVWD dcWD pmWD anWD cdWD ctWD), slWD⟩)
    (cWD : PySem.W.codeIn K cdWD "_law_word" = true)
    (kWD : PySem.W.keepIn K (.ref fWD) = true)
    (aWS : PySem.W.nsIn K mainGlobals "_law_words" = some (some (.ref fWS)))
    (lWS : K.lookup fWS = some ⟨ocWS, odWS, .func (PySem.W.fnOf "_law_words" "_law_words" (defArgs sWS) (defBody sWS) (defScope sWS) .none kVWS dcWS pmWS anWS cdWS ctWS), slWS⟩)
    (cWS : PySem.W.codeIn K cdWS "_law_words" = true)
    (kWS : PySem.W.keepIn K (.ref fWS) = true)
    (aPA : PySem.W.nsIn K mainGlobals "_law_parts" = some (some (.ref fPA)))
    (lPA : K.lookup fPA = some ⟨ocPA, odPA, .func (PySem.W.fnOf "_law_parts" "_law_parts" (defArgs sPA) (defBody sPA) (defScope sPA) .none kVPA dcPA pmPA anPA cdPA ctPA), slPA⟩)
    (cPA : PySem.W.codeIn K cdPA "_law_parts" = true)
    (kPA : PySem.W.keepIn K (.ref fPA) = true)
    (aRL : PySem.W.nsIn K mainGlobals "_law_rule" = some (some (.ref fRL)))
    (lRL : K.lookup fRL = some ⟨ocRL, odRL, .func (PySem.W.fnOf "_law_rule" "_law_rule" (defArgs sRL) (defBody sRL) (defScope sRL) .none kVRL dcRL pmRL anRL cdRL ctRL), slRL⟩)
    (cRL : PySem.W.codeIn K cdRL "_law_rule" = true)
    (kRL : PySem.W.keepIn K (.ref fRL) = true)
    (aSR : PySem.W.nsIn K mainGlobals "_law_same_rule" = some (some (.ref fSR)))
    (lSR : K.lookup fSR = some ⟨ocSR, odSR, .func (PySem.W.fnOf "_law_same_rule" "_law_same_rule" (defArgs sSR) (defBody sSR) (defScope sSR) .none kVSR dcSR pmSR anSR cdSR ctSR), slSR⟩)
    (cSR : PySem.W.codeIn K cdSR "_law_same_rule" = true)
    (kSR : PySem.W.keepIn K (.ref fSR) = true)
    (aRT : PySem.W.nsIn K mainGlobals "_law_rule_text" = some (some (.ref fRT)))
    (lRT : K.lookup fRT = some ⟨ocRT, odRT, .func (PySem.W.fnOf "_law_rule_text" "_law_rule_text" (defArgs sRT) (defBody sRT) (defScope sRT) .none kVRT dcRT pmRT anRT cdRT ctRT), slRT⟩)
    (cRT : PySem.W.codeIn K cdRT "_law_rule_text" = true)
    (kRT : PySem.W.keepIn K (.ref fRT) = true)
    (aNE : PySem.W.nsIn K mainGlobals "_law_near" = some (some (.ref fNE)))
    (lNE : K.lookup fNE = some ⟨ocNE, odNE, .func (PySem.W.fnOf "_law_near" "_law_near" (defArgs sNE) (defBody sNE) (defScope sNE) .none kVNE dcNE pmNE anNE cdNE ctNE), slNE⟩)
    (cNE : PySem.W.codeIn K cdNE "_law_near" = true)
    (kNE : PySem.W.keepIn K (.ref fNE) = true)
    (aLW : PySem.W.nsIn K mainGlobals "law" = some (some (.ref fLW)))
    (lLW : K.lookup fLW = some ⟨ocLW, odLW, .func (PySem.W.fnOf "law" "law" (defArgs sLW) (defBody sLW) (defScope sLW) .none kVLW dcLW pmLW anLW cdLW ctLW), slLW⟩)
    (cLW : PySem.W.codeIn K cdLW "law" = true)
    (kLW : PySem.W.keepIn K (.ref fLW) = true)
    (z_isi : PySem.W.nsIn K mainGlobals "isinstance" = some none)
    (z_int : PySem.W.nsIn K mainGlobals "int" = some none)
    (z_bool : PySem.W.nsIn K mainGlobals "bool" = some none)
    (z_str : PySem.W.nsIn K mainGlobals "str" = some none)
    (z_tup : PySem.W.nsIn K mainGlobals "tuple" = some none)
    (z_lst : PySem.W.nsIn K mainGlobals "list" = some none)
    (z_len : PySem.W.nsIn K mainGlobals "len" = some none)
    (z_all : PySem.W.nsIn K mainGlobals "all" = some none)
    (z_rng : PySem.W.nsIn K mainGlobals "range" = some none)
    (z_max : PySem.W.nsIn K mainGlobals "max" = some none)
    (z_min : PySem.W.nsIn K mainGlobals "min" = some none)
    (z_abs : PySem.W.nsIn K mainGlobals "abs" = some none)
    (z_enu : PySem.W.nsIn K mainGlobals "enumerate" = some none)
    (z_sup : PySem.W.nsIn K mainGlobals "super" = some none)
    (z_set : PySem.W.nsIn K mainGlobals "set" = some none)
    (z_srt : PySem.W.nsIn K mainGlobals "sorted" = some none)
    (z_rpr : PySem.W.nsIn K mainGlobals "repr" = some none)
    (n1 : PySem.W.nsIn K mainGlobals "MOST_WORDS" = some (some (.int 6 tk1)))
    (n2 : PySem.W.nsIn K mainGlobals "LONGEST_WORD" = some (some (.int 5 tk2)))
    (n3 : PySem.W.nsIn K mainGlobals "GREATEST_LOW" = some (some (.int 3 tk3)))
    (n4 : PySem.W.nsIn K mainGlobals "GREATEST_HIGH" = some (some (.int 7 tk4)))
    (n5 : PySem.W.nsIn K mainGlobals "GREATEST_SPAN" = some (some (.int 4 tk5)))
    (aR : PySem.W.nsIn K mainGlobals "Rule" = some (some (.ref R)))
    (f_MW : PySem.W.findIn K (.ref R) "words" = some (some (.ref fMW)))
    (lMW : K.lookup fMW = some ⟨ocMW, odMW, .func (PySem.W.fnOf "words" "Rule.words" (defArgs sMW) (defBody sMW) (defScope sMW) .none kVMW dcMW pmMW anMW cdMW ctMW), slMW⟩)
    (cMW : PySem.W.codeIn K cdMW "Rule.words" = true)
    (i_MW : PySem.W.isFn K (.ref fMW) = true)
    (kMW : PySem.W.keepIn K (.ref fMW) = true)
    (f_ML : PySem.W.findIn K (.ref R) "low" = some (some (.ref fML)))
    (lML : K.lookup fML = some ⟨ocML, odML, .func (PySem.W.fnOf "low" "Rule.low" (defArgs sML) (defBody sML) (defScope sML) .none kVML dcML pmML anML cdML ctML), slML⟩)
    (cML : PySem.W.codeIn K cdML "Rule.low" = true)
    (i_ML : PySem.W.isFn K (.ref fML) = true)
    (kML : PySem.W.keepIn K (.ref fML) = true)
    (f_MH : PySem.W.findIn K (.ref R) "high" = some (some (.ref fMH)))
    (lMH : K.lookup fMH = some ⟨ocMH, odMH, .func (PySem.W.fnOf "high" "Rule.high" (defArgs sMH) (defBody sMH) (defScope sMH) .none kVMH dcMH pmMH anMH cdMH ctMH), slMH⟩)
    (cMH : PySem.W.codeIn K cdMH "Rule.high" = true)
    (i_MH : PySem.W.isFn K (.ref fMH) = true)
    (kMH : PySem.W.keepIn K (.ref fMH) = true)
    (f_MS : PySem.W.findIn K (.ref R) "span" = some (some (.ref fMS)))
    (lMS : K.lookup fMS = some ⟨ocMS, odMS, .func (PySem.W.fnOf "span" "Rule.span" (defArgs sMS) (defBody sMS) (defScope sMS) .none kVMS dcMS pmMS anMS cdMS ctMS), slMS⟩)
    (cMS : PySem.W.codeIn K cdMS "Rule.span" = true)
    (i_MS : PySem.W.isFn K (.ref fMS) = true)
    (kMS : PySem.W.keepIn K (.ref fMS) = true)
    (f_EQ : PySem.W.findIn K (.ref R) "__eq__" = some (some (.ref fEQ)))
    (lEQ : K.lookup fEQ = some ⟨ocEQ, odEQ, .func (PySem.W.fnOf "__eq__" "Rule.__eq__" (defArgs sEQ) (defBody sEQ) (defScope sEQ) .none kVEQ dcEQ pmEQ anEQ cdEQ ctEQ), slEQ⟩)
    (cEQ : PySem.W.codeIn K cdEQ "Rule.__eq__" = true)
    (i_EQ : PySem.W.isFn K (.ref fEQ) = true)
    (kEQ : PySem.W.keepIn K (.ref fEQ) = true)
    (f_ST : PySem.W.findIn K (.ref R) "__str__" = some (some (.ref fST)))
    (lST : K.lookup fST = some ⟨ocST, odST, .func (PySem.W.fnOf "__str__" "Rule.__str__" (defArgs sST) (defBody sST) (defScope sST) .none kVST dcST pmST anST cdST ctST), slST⟩)
    (cST : PySem.W.codeIn K cdST "Rule.__str__" = true)
    (i_ST : PySem.W.isFn K (.ref fST) = true)
    (kST : PySem.W.keepIn K (.ref fST) = true)
    (f_RP : PySem.W.findIn K (.ref R) "__repr__" = some (some (.ref fRP)))
    (lRP : K.lookup fRP = some ⟨ocRP, odRP, .func (PySem.W.fnOf "__repr__" "Rule.__repr__" (defArgs sRP) (defBody sRP) (defScope sRP) .none kVRP dcRP pmRP anRP cdRP ctRP), slRP⟩)
    (cRP : PySem.W.codeIn K cdRP "Rule.__repr__" = true)
    (i_RP : PySem.W.isFn K (.ref fRP) = true)
    (kRP : PySem.W.keepIn K (.ref fRP) = true)
    (f_RI : PySem.W.findIn K (.ref R) "__init__" = some (some (.ref fRI)))
    (lRI : K.lookup fRI = some ⟨ocRI, odRI, .func (PySem.W.fnOf "__init__" "Rule.__init__" (defArgs sRI) (defBody sRI) (defScope sRI) (.ref Td) kVRI dcRI pmRI anRI cdRI ctRI), slRI⟩)
    (cRI : PySem.W.codeIn K cdRI "Rule.__init__" = true)
    (i_RI : PySem.W.isFn K (.ref fRI) = true)
    (kRI : PySem.W.keepIn K (.ref fRI) = true)
    (lTd : K.lookup Td = some ⟨ocT, odT, .seq #[.none, .int 0 tk0, .none, .none] nT, slT⟩)
    (mkR : PySem.W.makesIn K R = true)
    (kR : PySem.W.keepIn K (.ref R) = true)
    (pgR : PySem.W.plainGet K R Str.empty = true)
    (hdR : PySem.W.hasDictIn K R = true)
    (poR : PySem.W.plainOver K R = true)
    (saR : PySem.W.findIn K (.ref R) "__setattr__" = some (some (.builtin "object.__setattr__")))
    (na1 : PySem.W.findIn K (.ref R) "barred" = some none)
    (na2 : PySem.W.findIn K (.ref R) "least_gap" = some none)
    (na3 : PySem.W.findIn K (.ref R) "most_idle" = some none)
    (na4 : PySem.W.findIn K (.ref R) "most_swing" = some none)
    (aC : PySem.W.nsIn K mainGlobals "BadRule" = some (some (.ref C)))
    (xC : K.lookup C = some (excClassObj nm q C N bs bm true sn sub ab col dd k0 k1 k2 k3 k5 "ValueError.__new__"))
    (xbm : PySem.HandSPX.refsVE bm = true)
    (sa : PySem.W.findIn K (.ref C) "__setattr__" = some (some (.builtin "object.__setattr__")))
    (nat : PySem.W.findIn K (.ref C) "part" = some none)
    (eC : PySem.W.subIn K (.ref C) (.type "BaseException") = some true)
    (vC : PySem.W.subIn K (.ref C) (.type "ValueError") = some true)
    (tC : PySem.W.typeIn K (.ref C) = some (.type "type"))
    (mC : PySem.W.mroIn K C (.ref C) = some true)
    (kC : PySem.W.keepIn K (.ref C) = true)
    (aI : PySem.W.findIn K (.ref C) "__init__" = some (some (.ref fI)))
    (tI : PySem.W.typeIn K (.ref fI) = some (.type "function"))
    (lI : K.lookup fI = some ⟨ocI, odI, .func (PySem.W.ksFn "__init__" "BadRule.__init__" (defArgs sI1) (defBody sI1) (defScope sI1) .none kVI dcI pmI anI (.ref cda) ctI cc), slI⟩)
    (cI : PySem.W.codeIn K (.ref cda) "BadRule.__init__" = true)
    (lcd : K.lookup cda = some ⟨ccl, cdd, .fields vsc, ccs⟩)
    (lcc : K.lookup cc = some ⟨cl, cld, .cell (some (.ref C)), csl⟩)
    (sup : PySem.W.ks_superIn K C C "__init__" = some (some (.builtin "ValueError.__init__")))
    (opq : PySem.W.nsIn K cStatics "thirdparty.any" = some none)
    (vs2 : vsc[2]? = some (.str file tf))
    (fil : ((PySem.Challenge.pw_pulsewright_k04_rules_as_objects.main.file : Str) == file) = true)
    (tps : (PySem.Challenge.pw_pulsewright_k04_rules_as_objects.main.scope.names.lookup ("super" : Str)).isSome = false)
    (icl : PySem.W.findIn K (.ref R) "__class__" = some (some (.builtin "object.__class__")))
    (icn : PySem.W.specialIn K (.builtin "object.__class__") "__get__" = some (some (.builtin "getset_descriptor.__get__")))
    (ict : PySem.W.takesIn K (.builtin "object.__class__") = some true)
    (icm : PySem.W.mroIn K R (.type "object") = some true)
    (icc : PySem.W.isClsIn K R = true)
    (icy : PySem.W.typeIn K (.ref R) = some (.type "type"))
    (nes : PySem.W.findIn K (.ref R) "__ne__" = some (some (.builtin "object.__ne__")))
    (nfI : PySem.W.notFirst K R (.type "int") = true)
    (ktI : PySem.W.subIn K (.type "int") (.ref R) = some false)
    (nfT : PySem.W.notFirst K R (.type "tuple") = true)
    (ktT : PySem.W.subIn K (.type "tuple") (.ref R) = some false)
    (nfS : PySem.W.notFirst K R (.type "str") = true)
    (ktS : PySem.W.subIn K (.type "str") (.ref R) = some false)
    : ∃ fd : FuncData, (∀ (s : Shared) (u : Value), BindsTo s fd ⟨[u], []⟩ [("_law_script", u)]) ∧ ∀ base : Heap, K.In base → base.Ns mainGlobals mg → FnG PySem.Challenge.rw_pulsewright_k04_rules_as_objects.prog w K mg base 9 fa fd ["_law_script"] (spLW K) := by
  have e := hfa.symm.trans (PySem.W.mg_of X G aLW)
  cases e
  have B : BN mg := ⟨PySem.W.mg_none_of X G z_isi, PySem.W.mg_none_of X G z_int, PySem.W.mg_none_of X G z_bool, PySem.W.mg_none_of X G z_str, PySem.W.mg_none_of X G z_tup, PySem.W.mg_none_of X G z_lst, PySem.W.mg_none_of X G z_len, PySem.W.mg_none_of X G z_all, PySem.W.mg_none_of X G z_rng, PySem.W.mg_none_of X G z_max, PySem.W.mg_none_of X G z_min, PySem.W.mg_none_of X G z_abs, PySem.W.mg_none_of X G z_enu⟩
  have zset := PySem.W.mg_none_of X G z_set
  have zsrt := PySem.W.mg_none_of X G z_srt
  have N1 : Num mg "MOST_WORDS" 6 := ⟨_, PySem.W.mg_of X G n1, _, rfl⟩
  have N2 : Num mg "LONGEST_WORD" 5 := ⟨_, PySem.W.mg_of X G n2, _, rfl⟩
  have N3 : Num mg "GREATEST_LOW" 3 := ⟨_, PySem.W.mg_of X G n3, _, rfl⟩
  have N4 : Num mg "GREATEST_HIGH" 7 := ⟨_, PySem.W.mg_of X G n4, _, rfl⟩
  have N5 : Num mg "GREATEST_SPAN" 4 := ⟨_, PySem.W.mg_of X G n5, _, rfl⟩
  have FFS := fun_mk (st := sFS) lFS cFS kFS
  have FIW := fun_mk (st := sIW) lIW cIW kIW
  have FAW := fun_mk (st := sAW) lAW cAW kAW
  have FCP := fun_mk (st := sCP) lCP cCP kCP
  have FNT := fun_mk (st := sNT) lNT cNT kNT
  have FWT := fun_mk (st := sWT) lWT cWT kWT
  have FOP := fun_mk (st := sOP) lOP cOP kOP
  have FPU := fun_mk (st := sPU) lPU cPU kPU
  have FNU := fun_mk (st := sNU) lNU cNU kNU
  have FLK := fun_mk (st := sLK) lLK cLK kLK
  have FRO := fun_mk (st := sRO) lRO cRO kRO
  have FWD := fun_mk (st := sWD) lWD cWD kWD
  have FWS := fun_mk (st := sWS) lWS cWS kWS
  have FPA := fun_mk (st := sPA) lPA cPA kPA
  have FRL := fun_mk (st := sRL) lRL cRL kRL
  have FSR := fun_mk (st := sSR) lSR cSR kSR
  have FRT := fun_mk (st := sRT) lRT cRT kRT
  have FNE := fun_mk (st := sNE) lNE cNE kNE
  have FLW := fun_mk (st := sLW) lLW cLW kLW
  have FMW := fun_mk (st := sMW) lMW cMW kMW
  have FML := fun_mk (st := sML) lML cML kML
  have FMH := fun_mk (st := sMH) lMH cMH kMH
  have FMS := fun_mk (st := sMS) lMS cMS kMS
  have FEQ := fun_mk (st := sEQ) lEQ cEQ kEQ
  have FST := fun_mk (st := sST) lST cST kST
  have FRP := fun_mk (st := sRP) lRP cRP kRP
  have bFS := FFS.binds (ps := ["text"]) fun _ _ _ _ _ _ us hl => match us, hl with | [_], _ => rfl
  have bIW := FIW.binds (ps := ["text"]) fun _ _ _ _ _ _ us hl => match us, hl with | [_], _ => rfl
  have bAW := FAW.binds (ps := ["texts"]) fun _ _ _ _ _ _ us hl => match us, hl with | [_], _ => rfl
  have bCP := FCP.binds (ps := ["words", "low", "high", "span"]) fun _ _ _ _ _ _ us hl => match us, hl with | [_, _, _, _], _ => rfl
  have bNT := FNT.binds (ps := ["number"]) fun _ _ _ _ _ _ us hl => match us, hl with | [_], _ => rfl
  have bWT := FWT.binds (ps := ["words"]) fun _ _ _ _ _ _ us hl => match us, hl with | [_], _ => rfl
  have bOP := FOP.binds (ps := ["_law_script"]) fun _ _ _ _ _ _ us hl => match us, hl with | [_], _ => rfl
  have bPU := FPU.binds (ps := ["_law_draw", "_law_total_of"]) fun _ _ _ _ _ _ us hl => match us, hl with | [_, _], _ => rfl
  have bNU := FNU.binds (ps := ["_law_found"]) fun _ _ _ _ _ _ us hl => match us, hl with | [_], _ => rfl
  have bLK := FLK.binds (ps := ["_law_found", "_law_due"]) fun _ _ _ _ _ _ us hl => match us, hl with | [_, _], _ => rfl
  have bRO := FRO.binds (ps := ["_law_draw", "_law_many"]) fun _ _ _ _ _ _ us hl => match us, hl with | [_, _], _ => rfl
  have bWD := FWD.binds (ps := ["_law_draw"]) fun _ _ _ _ _ _ us hl => match us, hl with | [_], _ => rfl
  have bWS := FWS.binds (ps := ["_law_draw", "_law_most"]) fun _ _ _ _ _ _ us hl => match us, hl with | [_, _], _ => rfl
  have bPA := FPA.binds (ps := ["_law_draw"]) fun _ _ _ _ _ _ us hl => match us, hl with | [_], _ => rfl
  have bRL := FRL.binds (ps := ["_law_r"]) fun _ _ _ _ _ _ us hl => match us, hl with | [_], _ => rfl
  have bSR := FSR.binds (ps := ["_law_made", "_law_r"]) fun _ _ _ _ _ _ us hl => match us, hl with | [_, _], _ => rfl
  have bRT := FRT.binds (ps := ["_law_r"]) fun _ _ _ _ _ _ us hl => match us, hl with | [_], _ => rfl
  have bNE := FNE.binds (ps := ["_law_draw", "_law_r"]) fun _ _ _ _ _ _ us hl => match us, hl with | [_, _], _ => rfl
  have bMW := FMW.binds (ps := ["self"]) fun _ _ _ _ _ _ us hl => match us, hl with | [_], _ => rfl
  have bML := FML.binds (ps := ["self"]) fun _ _ _ _ _ _ us hl => match us, hl with | [_], _ => rfl
  have bMH := FMH.binds (ps := ["self"]) fun _ _ _ _ _ _ us hl => match us, hl with | [_], _ => rfl
  have bMS := FMS.binds (ps := ["self"]) fun _ _ _ _ _ _ us hl => match us, hl with | [_], _ => rfl
  have bEQ := FEQ.binds (ps := ["self", "other"]) fun _ _ _ _ _ _ us hl => match us, hl with | [_, _], _ => rfl
  have bST := FST.binds (ps := ["self"]) fun _ _ _ _ _ _ us hl => match us, hl with | [_], _ => rfl
  have bRP := FRP.binds (ps := ["self"]) fun _ _ _ _ _ _ us hl => match us, hl with | [_], _ => rfl
  have mFS := PySem.W.mg_of X G aFS
  have mIW := PySem.W.mg_of X G aIW
  have mAW := PySem.W.mg_of X G aAW
  have mCP := PySem.W.mg_of X G aCP
  have mNT := PySem.W.mg_of X G aNT
  have mWT := PySem.W.mg_of X G aWT
  have mOP := PySem.W.mg_of X G aOP
  have mPU := PySem.W.mg_of X G aPU
  have mNU := PySem.W.mg_of X G aNU
  have mLK := PySem.W.mg_of X G aLK
  have mRO := PySem.W.mg_of X G aRO
  have mWD := PySem.W.mg_of X G aWD
  have mWS := PySem.W.mg_of X G aWS
  have mPA := PySem.W.mg_of X G aPA
  have mRL := PySem.W.mg_of X G aRL
  have mSR := PySem.W.mg_of X G aSR
  have mRT := PySem.W.mg_of X G aRT
  have mNE := PySem.W.mg_of X G aNE
  have mLW := PySem.W.mg_of X G aLW
  have oex : OexC K C := ⟨⟨nm, q, N, bs, bm, sn, sub, ab, col, dd, k0, k1, k2, k3, k5, xC, xbm⟩, sa, eC, tC, kC⟩
  have S1 : SupC PySem.Challenge.pw_pulsewright_k04_rules_as_objects K mg C fI cc cda "part" := ⟨oex, nat, mC, vC, sup, opq, ⟨ccl, cdd, vsc, ccs, file, tf, lcd, vs2, fil⟩, ⟨cl, cld, csl, lcc⟩, PySem.W.mg_none_of X G z_sup, tps⟩
  have IC : IsiC K R := ⟨icl, icn, ict, icm, kit_me R⟩
  have RC : RuleC K R := ⟨⟨pgR, hdR, poR, saR⟩, na1, na2, na3, na4⟩
  have FRI : FunD K "__init__" "Rule.__init__" (defArgs sRI) (defBody sRI) (defScope sRI) dR [] fRI _ := ⟨⟨_, _, _, _, _, _, _, _, _, _, rfl, lRI, cRI, .inr ⟨by simp, Td, _, [.none, .int 0 tk0, .none, .none], nT, rfl, lTd, rfl, .cons rfl (.cons ⟨_, rfl⟩ (.cons rfl (.cons rfl .nil)))⟩, .inl rfl⟩, kRI⟩
  have MK : Mk K R fRI := ⟨mkR, f_RI, i_RI, kR⟩
  refine ⟨PySem.W.fnOf "law" "law" (defArgs sLW) (defBody sLW) (defScope sLW) .none kVLW dcLW pmLW anLW cdLW ctLW, fun s u => .of_eq rfl, fun base kb gb => ?_⟩
  · have E1 : ErrOk PySem.Challenge.pw_pulsewright_k04_rules_as_objects w K mg base "BadRule" "part" C okStr := err_rule S1 lI cI (PySem.W.mg_of X G aC) aI tI
    have oFS : FnOk PySem.Challenge.pw_pulsewright_k04_rules_as_objects w K mg base CX0 1 fFS _ ["text"] spFS := ok_fs FFS B.enu
    have oIW : FnOk PySem.Challenge.pw_pulsewright_k04_rules_as_objects w K mg base CX0 2 fIW _ ["text"] spIW := ok_iw FIW oFS mFS kFS bFS B.len N2
    have oAW : FnOk PySem.Challenge.pw_pulsewright_k04_rules_as_objects w K mg base CX0 3 fAW _ ["texts"] spAW := ok_aw FAW oIW mIW kIW bIW B.len zset B.all N1
    have oCP : FnOk PySem.Challenge.pw_pulsewright_k04_rules_as_objects w K mg base (L2.CX PySem.Challenge.pw_pulsewright_k04_rules_as_objects w) 4 fCP _ ["words", "low", "high", "span"] (spCP C) := ok_cp FCP oAW mAW kAW bAW B.max N3 N4 N5 E1
    have oRI : FnOk PySem.Challenge.pw_pulsewright_k04_rules_as_objects w K mg base (L2.CX PySem.Challenge.pw_pulsewright_k04_rules_as_objects w) 5 fRI _ psR (spRI R C) := ok_ri FRI oCP mCP kCP bCP zsrt RC
    have oPU : FnOk PySem.Challenge.pw_pulsewright_k04_rules_as_objects w K mg base CX0 1 fPU _ ["_law_draw", "_law_total_of"] spPU := ok_pu FPU B.len
    have PU : PUOk PySem.Challenge.pw_pulsewright_k04_rules_as_objects w K mg base := ⟨⟨_, _, oPU, mPU, kPU, bPU⟩⟩
    have oRO : FnOk PySem.Challenge.pw_pulsewright_k04_rules_as_objects w K mg base CX0 2 fRO _ ["_law_draw", "_law_many"] spRO := ok_ro FRO PU B.rng
    have oNU : FnOk PySem.Challenge.pw_pulsewright_k04_rules_as_objects w K mg base CX0 1 fNU _ ["_law_found"] spNU := ok_nu FNU B
    have oWD : FnOk PySem.Challenge.pw_pulsewright_k04_rules_as_objects w K mg base CX0 3 fWD _ ["_law_draw"] spWD := ok_wd FWD PU oRO mRO kRO bRO
    have oWS : FnOk PySem.Challenge.pw_pulsewright_k04_rules_as_objects w K mg base CX0 4 fWS _ ["_law_draw", "_law_most"] spWS := ok_ws FWS B PU oWD mWD kWD bWD
    have oPA : FnOk PySem.Challenge.pw_pulsewright_k04_rules_as_objects w K mg base CX0 5 fPA _ ["_law_draw"] (spPA 6) := ok_pa FPA B zsrt PU oWS mWS kWS bWS
    have oNE : FnOk PySem.Challenge.pw_pulsewright_k04_rules_as_objects w K mg base CX0 2 fNE _ ["_law_draw", "_law_r"] spNE := ok_ne FNE PU
    have oNT : FnOk PySem.Challenge.pw_pulsewright_k04_rules_as_objects w K mg base CX0 1 fNT _ ["number"] spNT := ok_nt FNT B.str
    have oWT : FnOk PySem.Challenge.pw_pulsewright_k04_rules_as_objects w K mg base CX0 1 fWT _ ["words"] spWT := ok_wt FWT
    have oRT : FnOk PySem.Challenge.pw_pulsewright_k04_rules_as_objects w K mg base CX0 1 fRT _ ["_law_r"] spRT := ok_rt FRT B zsrt
    have oEQ : FnOk PySem.Challenge.pw_pulsewright_k04_rules_as_objects w K mg base CX0 1 fEQ _ ["self", "other"] (spEQ K R) := ok_eq FEQ RC IC B.isi (PySem.W.mg_of X G aR)
    have oST : FnOk PySem.Challenge.pw_pulsewright_k04_rules_as_objects w K mg base CX0 2 fST _ ["self"] (spST R) := ok_st FST RC oWT mWT kWT bWT oNT mNT kNT bNT
    have oRP : FnG PySem.Challenge.pw_pulsewright_k04_rules_as_objects w K mg base 1 fRP _ ["self"] (spRP R) := ok_rp FRP RC
    have RM : RuleM PySem.Challenge.pw_pulsewright_k04_rules_as_objects w K mg base R := ⟨RC, ⟨⟨_, _, ok_mw FMW RC B.lst, ⟨f_MW, i_MW, kMW⟩, bMW⟩⟩, ⟨⟨_, _, ok_ml FML RC, ⟨f_ML, i_ML, kML⟩, bML⟩⟩, ⟨⟨_, _, ok_mh FMH RC, ⟨f_MH, i_MH, kMH⟩, bMH⟩⟩, ⟨⟨_, _, ok_ms FMS RC, ⟨f_MS, i_MS, kMS⟩, bMS⟩⟩⟩
    have KK : RMk PySem.Challenge.pw_pulsewright_k04_rules_as_objects w K mg base R C := ⟨⟨fRI, _, oRI, MK, FRI⟩, PySem.W.mg_of X G aR⟩
    have oRL : FnOk PySem.Challenge.pw_pulsewright_k04_rules_as_objects w K mg base CX0 7 fRL _ ["_law_r"] (spRL R) := ok_rl FRL B KK
    have oSR : FnOk PySem.Challenge.pw_pulsewright_k04_rules_as_objects w K mg base CX0 5 fSR _ ["_law_made", "_law_r"] (spSR R) := ok_sr FSR RM zsrt (ok_lk FLK B mLK kLK bLK oNU mNU kNU bNU 3) mLK kLK bLK
    have Z : Calls PySem.Challenge.pw_pulsewright_k04_rules_as_objects w K mg base R C := ⟨B, zsrt, PySem.W.mg_none_of X G z_rpr, ⟨⟨_, _, ok_op FOP B.lst, mOP, kOP, bOP⟩⟩, ⟨⟨_, _, oPU, mPU, kPU, bPU⟩⟩, ⟨⟨_, _, oPA, mPA, kPA, bPA⟩⟩, ⟨⟨_, _, oNE, mNE, kNE, bNE⟩⟩, ⟨⟨_, _, oRL, mRL, kRL, bRL⟩⟩, ⟨⟨_, _, oRT, mRT, kRT, bRT⟩⟩, ⟨⟨_, _, oSR, mSR, kSR, bSR⟩⟩, ⟨⟨_, _, ok_lk FLK B mLK kLK bLK oNU mNU kNU bNU 3, mLK, kLK, bLK⟩⟩, KK, RC, IC, ⟨_, _, oEQ, f_EQ, i_EQ, bEQ⟩, ⟨_, _, oST, f_ST, i_ST, bST⟩, ⟨_, _, oRP, f_RP, i_RP, bRP⟩, nes, nfI, nfT, nfS, kit_no icc icy ktI, kit_no icc icy ktT, kit_no icc icy ktS⟩
    exact ok_lw FLW Z
end K04

set_option Elab.async false
open PySem PySem.W PyProof.Rows
set_option maxRecDepth 100000 in
set_option maxHeartbeats 0 in
theorem PySem.Challenge.cw_pulsewright_k04_rules_as_objects_holds : PySem.Challenge.rw_pulsewright_k04_rules_as_objects.Holds := by
  w_on; o_law; k_head; (case hw => w_witness2)
  k_fill
  refine Pw.walkG (l := PySem.Challenge.rw_pulsewright_k04_rules_as_objects) (n := 63) (k := 9) (x := "_law_script") (sp := K04.spLW) rfl (by decide) rfl ⟨rfl, by decide, by decide⟩ (fun w h Y => PySem.W.kIn_of Y) ?F (fun _ _ _ _ sq => ⟨_, _, rfl, sq, fun _ => rfl⟩)
  case F =>
    intro w mg fa h KX G hmg
    refine' K04.all_mk KX G hmg ?aFS ?lFS ?cFS ?kFS ?aIW ?lIW ?cIW ?kIW ?aAW ?lAW ?cAW ?kAW ?aCP ?lCP ?cCP ?kCP ?aNT ?lNT ?cNT ?kNT ?aWT ?lWT ?cWT ?kWT ?aOP ?lOP ?cOP ?kOP ?aPU ?lPU ?cPU ?kPU ?aNU ?lNU ?cNU ?kNU ?aLK ?lLK ?cLK ?kLK ?aRO ?lRO ?cRO ?kRO ?aWD ?lWD ?cWD ?kWD ?aWS ?lWS ?cWS ?kWS ?aPA ?lPA ?cPA ?kPA ?aRL ?lRL ?cRL ?kRL ?aSR ?lSR ?cSR ?kSR ?aRT ?lRT ?cRT ?kRT ?aNE ?lNE ?cNE ?kNE ?aLW ?lLW ?cLW ?kLW ?z_isi ?z_int ?z_bool ?z_str ?z_tup ?z_lst ?z_len ?z_all ?z_rng ?z_max ?z_min ?z_abs ?z_enu ?z_sup ?z_set ?z_srt ?z_rpr ?n1 ?n2 ?n3 ?n4 ?n5 ?aR ?f_MW ?lMW ?cMW ?i_MW ?kMW ?f_ML ?lML ?cML ?i_ML ?kML ?f_MH ?lMH ?cMH ?i_MH ?kMH ?f_MS ?lMS ?cMS ?i_MS ?kMS ?f_EQ ?lEQ ?cEQ ?i_EQ ?kEQ ?f_ST ?lST ?cST ?i_ST ?kST ?f_RP ?lRP ?cRP ?i_RP ?kRP ?f_RI ?lRI ?cRI ?i_RI ?kRI ?lTd ?mkR ?kR ?pgR ?hdR ?poR ?saR ?na1 ?na2 ?na3 ?na4 ?aC ?xC ?xbm ?sa ?nat ?eC ?vC ?tC ?mC ?kC ?aI ?tI ?lI ?cI ?lcd ?lcc ?sup ?opq ?vs2 ?fil ?tps ?icl ?icn ?ict ?icm ?icc ?icy ?nes ?nfI ?ktI ?nfT ?ktT ?nfS ?ktS
    (case aFS => k_is)
    (case lFS => k_is)
    (case cFS => k_is)
    (case kFS => k_is)
    (case aIW => k_is)
    (case lIW => k_is)
    (case cIW => k_is)
    (case kIW => k_is)
    (case aAW => k_is)
    (case lAW => k_is)
    (case cAW => k_is)
    (case kAW => k_is)
    (case aCP => k_is)
    (case lCP => k_is)
    (case cCP => k_is)
    (case kCP => k_is)
    (case aNT => k_is)
    (case lNT => k_is)
    (case cNT => k_is)
    (case kNT => k_is)
    (case aWT => k_is)
    (case lWT => k_is)
    (case cWT => k_is)
    (case kWT => k_is)
    (case aOP => k_is)
    (case lOP => k_is)
    (case cOP => k_is)
    (case kOP => k_is)
    (case aPU => k_is)
    (case lPU => k_is)
    (case cPU => k_is)
    (case kPU => k_is)
    (case aNU => k_is)
    (case lNU => k_is)
    (case cNU => k_is)
    (case kNU => k_is)
    (case aLK => k_is)
    (case lLK => k_is)
    (case cLK => k_is)
    (case kLK => k_is)
    (case aRO => k_is)
    (case lRO => k_is)
    (case cRO => k_is)
    (case kRO => k_is)
    (case aWD => k_is)
    (case lWD => k_is)
    (case cWD => k_is)
    (case kWD => k_is)
    (case aWS => k_is)
    (case lWS => k_is)
    (case cWS => k_is)
    (case kWS => k_is)
    (case aPA => k_is)
    (case lPA => k_is)
    (case cPA => k_is)
    (case kPA => k_is)
    (case aRL => k_is)
    (case lRL => k_is)
    (case cRL => k_is)
    (case kRL => k_is)
    (case aSR => k_is)
    (case lSR => k_is)
    (case cSR => k_is)
    (case kSR => k_is)
    (case aRT => k_is)
    (case lRT => k_is)
    (case cRT => k_is)
    (case kRT => k_is)
    (case aNE => k_is)
    (case lNE => k_is)
    (case cNE => k_is)
    (case kNE => k_is)
    (case aLW => k_is)
    (case lLW => k_is)
    (case cLW => k_is)
    (case kLW => k_is)
    (case z_isi => k_is)
    (case z_int => k_is)
    (case z_bool => k_is)
    (case z_str => k_is)
    (case z_tup => k_is)
    (case z_lst => k_is)
    (case z_len => k_is)
    (case z_all => k_is)
    (case z_rng => k_is)
    (case z_max => k_is)
    (case z_min => k_is)
    (case z_abs => k_is)
    (case z_enu => k_is)
    (case z_sup => k_is)
    (case z_set => k_is)
    (case z_srt => k_is)
    (case z_rpr => k_is)
    (case n1 => k_is)
    (case n2 => k_is)
    (case n3 => k_is)
    (case n4 => k_is)
    (case n5 => k_is)
    (case aR => k_is)
    (case f_MW => k_is)
    (case lMW => k_is)
    (case cMW => k_is)
    (case i_MW => k_is)
    (case kMW => k_is)
    (case f_ML => k_is)
    (case lML => k_is)
    (case cML => k_is)
    (case i_ML => k_is)
    (case kML => k_is)
    (case f_MH => k_is)
    (case lMH => k_is)
    (case cMH => k_is)
    (case i_MH => k_is)
    (case kMH => k_is)
    (case f_MS => k_is)
    (case lMS => k_is)
    (case cMS => k_is)
    (case i_MS => k_is)
    (case kMS => k_is)
    (case f_EQ => k_is)
    (case lEQ => k_is)
    (case cEQ => k_is)
    (case i_EQ => k_is)
    (case kEQ => k_is)
    (case f_ST => k_is)
    (case lST => k_is)
    (case cST => k_is)
    (case i_ST => k_is)
    (case kST => k_is)
    (case f_RP => k_is)
    (case lRP => k_is)
    (case cRP => k_is)
    (case i_RP => k_is)
    (case kRP => k_is)
    (case f_RI => k_is)
    (case lRI => k_is)
    (case cRI => k_is)
    (case i_RI => k_is)
    (case kRI => k_is)
    (case lTd => k_is)
    (case mkR => k_is)
    (case kR => k_is)
    (case pgR => k_is)
    (case hdR => k_is)
    (case poR => k_is)
    (case saR => k_is)
    (case na1 => k_is)
    (case na2 => k_is)
    (case na3 => k_is)
    (case na4 => k_is)
    (case aC => k_is)
    (case xC => k_is)
    (case xbm => first | rfl | decide +kernel)
    (case sa => k_is)
    (case nat => k_is)
    (case eC => k_is)
    (case vC => k_is)
    (case tC => k_is)
    (case mC => k_is)
    (case kC => k_is)
    (case aI => k_is)
    (case tI => k_is)
    (case lI => k_is)
    (case cI => k_is)
    (case lcd => k_is)
    (case lcc => k_is)
    (case sup => ks_is)
    (case opq => k_is)
    (case vs2 => rfl)
    (case fil => first | rfl | decide +kernel)
    (case tps => first | rfl | decide +kernel)
    (case icl => k_is)
    (case icn => k_is)
    (case ict => k_is)
    (case icm => k_is)
    (case icc => k_is)
    (case icy => k_is)
    (case nes => k_is)
    (case nfI => k_is)
    (case ktI => k_is)
    (case nfT => k_is)
    (case ktT => k_is)
    (case nfS => k_is)
    (case ktS => k_is)

