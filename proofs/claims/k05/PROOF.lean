import PyProof.Rows.All
import Wide.All
import OpenK.AllK
import Wide.FinOn
import KE.KExcSuper
import HandS.Base
import HandS.Call
import HandS.List
import HandS.Ends
import HandS.Exc
import HandS.ExcInit
import HandS.Words
import HandS.Lambda
import HandS.ExcField
import KE.GoesMore
import HandS.Iter
import HandS.Walk
import HandS.Text
import HandS.Strs
import PyProof.TupleOfSeq
import PyProof.Rows.StrFirst
import PyProof.StrLawsIn
import HandS.ForMost
import HandS.SortKw
import KE.DataMinMax
import KE.DatumOrd
import HandS.Set
import HandS.ForExc
import HandS.Defaults
import HandS.MakeKw
import HandS.FStr
import HandS.IsInst
import HandS.EndTab
import HandS.Flow
import HandS.Wide
import HandS.TupAny
import KE.RegKSuper
import PySem.Challenge.RW_pulsewright_k05_rules_with_more_and_less
set_option Elab.async false
set_option linter.all false
set_option maxRecDepth 100000
set_option maxHeartbeats 4000000
namespace Pw
open PySem PySem.Spec PyProof.Rows L2

abbrev supScope (f : Str) : Scope := { kind := .function, names := [("self", .local), (f, .local), ("__class__", .free), ("super", .globalImplicit)], isGenerator := false, isCoroutine := false, more := [] }

/-- the body of such an __init__: super().__init__(msg); self.f = f -/
abbrev supBody (msg : Expr) (f : Str) (p0 p1 p2 p3 p4 p5 p6 p7 p8 : Pos) : List Stmt :=
  [.Expr (.Call (.Attribute (.Call (.Name "super" p0) [] [] p1) "__init__" p2) [msg] [] p3) p4,
   .Assign [.Attribute (.Name "self" p5) f p6] (.Name f p7) p8]

/-- its context -/
def supCx (P : Program) (w : World) (K : PySem.W.Frag) (mg : Str → Option Value) (base : Heap) (f : Str) (qual : Str) (fI cda cc : Addr) (A : Around) (outer : List Env) (s : Shared) (H : Hp) : Cx where
  prog := P
  w := w
  K := K
  mg := mg
  base := base
  A := A.deeper (PySem.W.ksEnv qual (supScope f) s.heap.objs.size fI (.ref cda) cc)
  N := ["self", f]
  s_0 := s
  H_0 := H
  env := PySem.W.ksEnv qual (supScope f) s.heap.objs.size fI (.ref cda) cc
  outer := outer
  stack := PySem.W.ksEnv qual (supScope f) s.heap.objs.size fI (.ref cda) cc :: outer
  ex := []
  fn := fun _ => false
  calm := true
  pn := []
  xe := fun _ _ => False

/-- what the written part says of the class at C, its __init__ at fI, the cell at cc, the code object at cda -/
structure SupC (P : Program) (K : PySem.W.Frag) (mg : Str → Option Value) (C fI cc cda : Addr) (f : Str) : Prop where
  oex : OexC K C
  noF : PySem.W.findIn K (.ref C) f = some none
  sub : PySem.W.mroIn K C (.ref C) = some true
  subVE : PySem.W.subIn K (.ref C) (.type "ValueError") = some true
  sup : PySem.W.ks_superIn K C C "__init__" = some (some (.builtin "ValueError.__init__"))
  op : PySem.W.nsIn K cStatics "thirdparty.any" = some none
  code : ∃ ccl cdd vs ccs file tf, K.lookup cda = some ⟨ccl, cdd, .fields vs, ccs⟩ ∧ vs[2]? = some (.str file tf) ∧ ((P.main.file : Str) == file) = true
  cell : ∃ cl cld csl, K.lookup cc = some ⟨cl, cld, .cell (some (.ref C)), csl⟩
  mgS : mg "super" = none
  topS : (P.main.scope.names.lookup ("super" : Str)).isSome = false

/-- the promise of the __init__: the new exception's dict holds the field -/
def spSup (C : Addr) (f : Str) (Okv : V → Prop) : Sp := fun vs H Q _ => ∃ (a : Addr) (v : V), vs = [.ref a, v] ∧ Okv v ∧ H a = some (exo a C none) ∧
  ∀ dx, H dx = none → dx ≠ a → Q .non (upd (upd H dx (exd dx [(f, v)])) a (exo a C (some dx)))

section
variable {P : Program} {w : World} {K : PySem.W.Frag} {mg : Str → Option Value} {base : Heap} {f qual : Str} {C fI cda cc : Addr}
theorem sup_start {A : Around} {outer : List Env} {s : Shared} {H : Hp} {h₁ : Heap} {a : Addr} {v : V} {u : Value} {tk : Nat} (hfs : (f == ("self" : Str)) = false) (hfc : (f == ("__class__" : Str)) = false) (T : SupC P K mg C fI cc cda f) (hd : A.handled = none) (e0 : Env0 P w K mg base A outer s H) (rv : RelV v u)
    (hns : h₁.Ns s.heap.objs.size (fun x => ([("self", Value.ref a), (f, u)] : List (Str × Value)).reverse.lookup x)) (kp : ∀ b o, s.heap.get? b = some o → h₁.get? b = some o) :
    Inv (supCx P w K mg base f qual fI cda cc A outer s H) [] [some (.ref a), some v] H { s with heap := h₁, toks := tk } := by
  obtain ⟨cl, cld, csl, hcell⟩ := T.cell
  have hcb : base.get? cc = some ⟨cl, cld, .cell (some (.ref C)), csl⟩ := e0.mod.kin _ _ hcell
  have hcs := e0.bs _ _ hcb
  have noA : ∀ b : Addr, b ∉ (supCx P w K mg base f qual fI cda cc A outer s H).ex := fun b z => absurd (show b ∈ ([] : List Addr) from z) (by simp)
  have only : ∀ {y : Str} {c : Addr}, ([("__class__", cc)] : List (Str × Addr)).lookup y = some c → y = "__class__" ∧ c = cc := fun {y c} e => by
    by_cases hy : y = "__class__"
    · subst hy
      have e2 : some cc = some c := e
      exact ⟨rfl, (Option.some.inj e2).symm⟩
    · have : (y == ("__class__" : Str)) = false := by simpa using hy
      simp [List.lookup, this] at e
  refine ⟨⟨e0.mod, rfl, rfl, rfl, Nat.le_refl _, fun y z c e1 e2 => ?_, fun y hy => ?_, fun y c z _ => ?_, fun _ => hd, Around.frames_deeper e0.frames, .inr ⟨rfl, rfl⟩, fun b z => absurd z (noA b), e0.bs, e0.bsz, fun b _ _ => noA b,
      fun b z => absurd z (noA b), e0.funs, e0.frf⟩,
    rfl, e0.bare, Un.kept kp, ⟨_, hns, fun i y v' e1 e2 e3 => ?_⟩, fun y c e => ?_, e0.hok.fresh (Nat.le_refl _), fun y c e => ?_, fun q hq => absurd (show q ∈ ([] : List (Addr × Obj)) ++ [] from hq) (by simp), e0.hok.kept kp, rfl⟩
  · exact (only e1).1.trans (only e2).1.symm
  · have hy : (supScope f).names.lookup y = some .cell ∨ (supScope f).names.lookup y = some .free := hy
    have : y = "__class__" := by
      by_cases h1 : y = "self"
      · subst h1
        rcases hy with h | h <;> cases h
      · by_cases h2 : y = f
        · subst h2
          have q1 : (y == ("self" : Str)) = false := hfs
          simp [List.lookup, q1] at hy
        · by_cases h3 : y = "__class__"
          · exact h3
          · have q1 : (y == ("self" : Str)) = false := by simpa using h1
            have q2 : (y == f) = false := by simpa using h2
            have q3 : (y == ("__class__" : Str)) = false := by simpa using h3
            by_cases h4 : y = "super"
            · subst h4
              simp [List.lookup, q1, q2, q3] at hy
            · have q4 : (y == ("super" : Str)) = false := by simpa using h4
              simp [List.lookup, q1, q2, q3, q4] at hy
    subst this
    exact ⟨cc, rfl⟩
  · have z : false = true := z
    cases z
  · match i, e1, e2 with
    | 0, e1, e2 =>
      have e1 : "self" = y := Option.some.inj e1
      have e2 : V.ref a = v' := Option.some.inj (Option.some.inj e2)
      subst e1
      subst e2
      refine ⟨_, rfl, .inl ⟨rfl, ?_⟩⟩
      have q : (("self" : Str) == f) = false := by
        have := hfs
        rw [beq_eq_false_iff_ne] at this ⊢
        exact this.symm
      simp [List.lookup, q]
    | 1, e1, e2 =>
      have e1 : f = y := Option.some.inj e1
      have e2 : v = v' := Option.some.inj (Option.some.inj e2)
      subst e1
      subst e2
      refine ⟨_, rv, .inl ⟨?_, by simp [List.lookup]⟩⟩
      show (supScope f).names.lookup f = some .local
      simp [List.lookup, hfs]
    | n + 2, e1, e2 => simp [supCx] at e1
  · obtain ⟨_, rfl⟩ := only e
    exact ⟨_, _, kp _ _ hcs.1, rfl⟩
  · obtain ⟨_, rfl⟩ := only e
    exact hcs.2

theorem fn_sup {k : Nat} {CX : CXT} {Okv : V → Prop} {name : Str} {ap : Arguments} {mv : List Expr} {pj : Pos} {dV kV doc pm ct oc : Value} {an od : Option Addr} {osl : Array (Option Value)} {p0 p1 p2 p3 p4 p5 p6 p7 p8 : Pos}
    (hfs : (f == ("self" : Str)) = false) (hfc : (f == ("__class__" : Str)) = false) (hfu : (f == ("super" : Str)) = false) (hfd : (f == ("__debug__" : Str)) = false) (hfcd : (f == ("__classdict__" : Str)) = false) (T : SupC P K mg C fI cc cda f)
    (hap : (ap.posonlyargs ++ ap.args).head?.map (·.arg) = some ("self" : Str))
    (lk : K.lookup fI = some ⟨oc, od, .func (PySem.W.ksFn name qual ap (supBody (.JoinedStr mv pj) f p0 p1 p2 p3 p4 p5 p6 p7 p8) (supScope f) dV kV doc pm an (.ref cda) ct cc), osl⟩) (hcd : PySem.W.codeIn K (.ref cda) qual = true)
    (hmsg : ∀ X : Cx, X.N = (["self", f] : List Str) → X.env.scope = supScope f → ∃ tm : TE, PE X (.JoinedStr mv pj) tm ∧ ∀ (a : Addr) (v : V) (H : Hp) (Q : VK), Okv v → (∀ z : Str, Q (.str z) H) → tm [some (.ref a), some v] H Q)
    {pl : Sem Bool} (he : ∀ env : Env, eval (.Call (.Attribute (.Call (.Name "super" p0) [] [] p1) "__init__" p2) [.JoinedStr mv pj] [] p3) env = (do
      let ov ← attributeBase (.Call (.Name "super" p0) [] [] p1) "__init__" env (eval (.Call (.Name "super" p0) [] [] p1) env)
      standAt p2.atName
      let (f, first) ← holding [ov] (getMethod ov "__init__" pl)
      callWith p3 f first (backTo p3 (starEach [.JoinedStr mv pj] env)) [])) :
    FnOk P w K mg base CX (k + 1) fI (PySem.W.ksFn name qual ap (supBody (.JoinedStr mv pj) f p0 p1 p2 p3 p4 p5 p6 p7 p8) (supScope f) dV kV doc pm an (.ref cda) ct cc) ["self", f] (spSup C f Okv) := by
  refine ⟨fun vs H Q E h => ?_, fun A outer s H args us vs Q E hr e0 hb r hsp => ?_⟩
  · obtain ⟨a, v, rfl, _⟩ := h
    rfl
  obtain ⟨a, v, rfl, hv, ha, q⟩ := hsp
  obtain ⟨u1, rfl, rv⟩ : ∃ u1, us = [.ref a, u1] ∧ RelV v u1 := by
    cases r with
    | cons r0 r1 =>
      cases r1 with
      | cons r1 r2 =>
        cases r2
        cases r0
        exact ⟨_, rfl, r1⟩
  have KX : K.In s.heap := e0.mod.kin.keeps fun b o e => (e0.bs b o e).1
  have lim : s.heap.NoLimit := e0.mod.nolimit.keeps fun b o e => (e0.bs b o e).1
  have hfs' : (f == ("self" : Str)) = false := hfs
  refine PySem.ks_codeAny_call_defAt (fd := PySem.W.ksFn name qual ap (supBody (.JoinedStr mv pj) f p0 p1 p2 p3 p4 p5 p6 p7 p8) (supScope f) dV kV doc pm an (.ref cda) ct cc) (body := supBody (.JoinedStr mv pj) f p0 p1 p2 p3 p4 p5 p6 p7 p8) (binds := [("self", .ref a), (f, u1)])
    hr.depth (KX _ _ lk) rfl lim (PySem.W.codeRec_of KX hcd) rfl hb ?_ ?_ (fun h₁ hns kp => ?_) rfl rfl rfl
  · intro x hx
    have hx : x ∈ (supScope f).names := hx
    simp at hx
    rcases hx with rfl | rfl | rfl | rfl <;> simp
  · intro x hx
    simp at hx
    show (supScope f).names.lookup x.1 = some .local
    rcases hx with rfl | rfl
    · rfl
    · simp [List.lookup, hfs']
  have I : Inv (supCx P w K mg base f qual fI cda cc A outer s H) [] [some (.ref a), some v] H { s with heap := h₁, toks := s.toks + 2 } := sup_start hfs hfc T hr.hd e0 rv hns kp
  have KX1 : K.In h₁ := I.kIn
  obtain ⟨t1, hoe⟩ := exo_at I.hok ha
  obtain ⟨nm, qn, N, bs, bm, sn, sub, ab, col, dd, k0, k1, k2, k3, k5, hC, hbm⟩ := T.oex.cls
  have hcl : PySem.W.clsIn K C = some { name := nm, bases := bs, mro := .ref C :: bm, ns := N, qualname := qn, hasDict := true, slotNames := sn, subclasses := sub, abstract := ab, collection := col, hasDel := false } := by unfold PySem.W.clsIn; rw [hC] <;> rfl
  have hC1 := KX1 _ _ hC
  obtain ⟨ccl, cdd, vs, ccs, file, tf, hcode, hvs, hfile⟩ := T.code
  obtain ⟨cl, cld, csl, hcell⟩ := T.cell
  obtain ⟨ar, har, hara⟩ : ∃ ar : Arg, (ap.posonlyargs ++ ap.args).head? = some ar ∧ ar.arg = "self" := by
    cases e : (ap.posonlyargs ++ ap.args).head? with
    | none =>
      rw [e] at hap
      cases hap
    | some ar =>
      rw [e] at hap
      exact ⟨ar, rfl, Option.some.inj hap⟩
  have hInst : PySem.W.InstAt h₁ a { cls := .ref C, dict := none, data := .fields #[.ref t1, .none, .none, .none, .bool false, .none] } C none := ⟨hoe, rfl, rfl, trivial⟩
  have hxC : a ≠ C := PySem.W.ks_ne KX1 hInst hcl
  have sy : ∀ {x y : Str}, (x == y) = false → (y == x) = false := fun {x y} h => by
    rw [beq_eq_false_iff_ne] at h ⊢
    exact h.symm
  have l_super : (supScope f).names.lookup ("super" : Str) = some .globalImplicit := by
    have q1 := sy hfu
    have q2 : (("super" : Str) == ("self" : Str)) = false := by decide
    have q3 : (("super" : Str) == ("__class__" : Str)) = false := by decide
    simp [List.lookup, q1, q2, q3]
  have l_class : (supScope f).names.lookup ("__class__" : Str) = some .free := by
    have q1 := sy hfc
    have q2 : (("__class__" : Str) == ("self" : Str)) = false := by decide
    simp [List.lookup, q1, q2]
  have l_f : (supScope f).names.lookup f = some .local := by simp [List.lookup, hfs']
  obtain ⟨mb, hb1, hb2⟩ := e0.mod.blt
  refine PySem.ks_wpAt_execs_cons (PySem.ks_wpAt_Expr_any (PySem.ks_wpAt_MethodCall (pl := pl) ?_ (he _)) rfl rfl)
  refine PySem.ks_wpAt_super_base (env := PySem.W.ksEnv qual (supScope f) s.heap.objs.size fI (.ref cda) cc) ?ks ?kc rfl rfl (KX1 _ _ lk) rfl har rfl (KX1 _ _ hcode) rfl hvs hfile T.topS ?_
  case ks => exact l_super
  case kc => exact l_class
  refine PySem.W.ks_loadName_global rfl l_super (PySem.Calls.loadGlobal_builtin (env := PySem.W.ksEnv qual (supScope f) s.heap.objs.size fI (.ref cda) cc) (I.mod.glob.keeps I.bk) T.mgS (hb1.keeps I.bk) ((hb2 _ (by decide)).trans PyProof.Rows.Boot.«super») ⟨rfl, ?_⟩)
  refine wpAny_loadName_free rfl l_class rfl ⟨_, KX1 _ _ hcell, rfl⟩ ?_
  rw [hara]
  refine wpAny_loadName_local rfl rfl hns (v := .ref a) ?_ ?_
  · have q := sy hfs
    simp [List.lookup, q]
  refine PySem.ks_wpAny_isType_cls hC1 rfl ⟨rfl, ?_⟩
  refine PySem.ks_wpAny_call_super hC1 rfl hoe rfl (fun c e => by cases e) (PySem.W.looks_mroIn KX1 T.sub) (fun h2 hso k2 => ?_)
  have I2 := I.kept (h' := h2) (t' := s.toks + 2) k2
  have KX2 : K.In h2 := I2.kIn
  have hInst2 : PySem.W.InstAt h2 a { cls := .ref C, dict := none, data := .fields #[.ref t1, .none, .none, .none, .bool false, .none] } C none := ⟨k2 _ _ hoe, rfl, rfl, trivial⟩
  refine PySem.W.kxs_getMethod PySem.W.kxs_ValueError hso (PySem.W.looks_opaque KX2 T.op) (l₀ := .ref C :: bm) ?mro rfl KX2 ?along (hInst2.type.andThen (PySem.W.looks_subIn KX2 T.subVE)) hxC rfl ?_
  case mro => exact fun A Q E s k q => wpAny_bind ((PySem.W.looks_clsIn KX2 hcl) A _ E s k (wpAny_pure q))
  case along =>
    have z := T.sup
    unfold PySem.W.ks_superIn at z
    rw [hcl] at z
    exact z
  have I3 := I2.kept (h' := h2.push (PySem.W.kxs_mw "ValueError.__init__" a)) (t' := s.toks + 2 + 1) (fun b o e => Heap.get?_push_of_some _ e)
  have hsz : H h2.objs.size = none := I2.hok.fresh (Nat.le_refl _)
  have I4 := I3.pins_of (pins' := [(h2.objs.size, PySem.W.kxs_mw "ValueError.__init__" a)]) (fun p hp => by
    obtain rfl : p = (h2.objs.size, PySem.W.kxs_mw "ValueError.__init__" a) := by simpa using hp
    exact ⟨Heap.get?_push_at rfl rfl, hsz, Nat.ne_of_gt I2.lt, I2.nofs (Nat.le_refl _), fun v z => by cases z⟩)
  obtain ⟨tm, hpe, htm⟩ := hmsg (supCx P w K mg base f qual fI cda cc A outer s H) rfl rfl
  refine PySem.W.kxs_callWith (i := "ValueError.__init__") (x := a) rfl (PySem.Calls.evalArgs_plain ?_)
  refine wpAny_mono ((pa_cons hpe pa_nil).run p3 _ _ _ H (fun vs H1 => (∃ z, vs = [.str z]) ∧ H1 = H) I4 (htm a v H _ hv fun z => ⟨⟨z, rfl⟩, rfl⟩)) (fun us s5 hq5 => ?_) (fun _ _ z => z.elim)
  obtain ⟨vs5, H1, I5, r5, ⟨z, ev⟩, eH⟩ := hq5
  rw [eH] at I5
  have hu := (I5.pin (h2.objs.size, PySem.W.kxs_mw "ValueError.__init__" a) (by simp)).1
  refine ⟨hu, ?_⟩
  obtain ⟨hp5, g5, d5, t5, os5⟩ := s5
  obtain ⟨t6, hoe5⟩ := exo_at I5.hok ha
  have hC5 := I5.kIn _ _ hC
  have hz5 : us.length ≤ sizeLine := by
    rw [← Paired.length r5, ev, sizeLine_eq]
    exact Nat.le_trans (Nat.le_refl 1) (by omega)
  refine wpAny_call (codeAny_of_tree ?_)
  show wpAny _ _ (callAny (.ref h2.objs.size) ⟨us, []⟩) _ _ _
  simp only [callAny]
  refine wpAny_bind (wpAny_load hu ?_)
  simp only [PySem.W.kxs_mw, show (Value.type "method-wrapper" == Value.type "method" || Value.type "method-wrapper" == Value.type "builtin_function_or_method" || Value.type "method-wrapper" == Value.type "method-wrapper") = true by decide, if_true]
  refine PySem.W.KFB.if_so (by decide) ?_
  refine wpAny_bind (PySem.W.check_bound_init PySem.F.excBase_ValueError.toExcCallFacts hC5 hoe5 rfl ?_)
  refine wpAny_bind (wpAny_pure (wpAny_pure ?_))
  refine ⟨plainId_quiet PySem.F.excBase_ValueError.init.plain _, codeAny_builtin PySem.F.excBase_ValueError.initEntry ?_⟩
  refine PySem.W.exc_init_tree (cls := .ref C) (t0 := t6) (dv := none) (c2 := .none) (c3 := .none) (b4 := .bool false) hoe5 hz5 (fun h6 k6 e6 _ => ?_)
  have J0 := I5.write (h' := h6) (t' := t5) (x := a) (e := a) (o := exo a C none) (by rw [ha]; exact True.intro) (.inl rfl) k6 ⟨_, e6⟩ (exo_ok e6)
  have eu : upd H a (exo a C none) = H := by
    funext b
    by_cases hb : b = a
    · rw [hb, upd_same, ha]
    · rw [upd_ne hb]
  rw [eu] at J0
  have J := J0.pins_of (pins' := []) (fun p hp => by cases hp)
  have ps : PSs (supCx P w K mg base f qual fI cda cc A outer s H) [.Assign [.Attribute (.Name "self" p5) f p6] (.Name f p7) p8] _ := pss_one (ps_ost (pe_var (i := 0) (x := "self") rfl (.inl rfl) (by decide) (by decide)) (pe_var (i := 1) (x := f) rfl (.inl l_f) hfd hfcd))
  show PySem.wpAt _ _ _ (execs [.Assign [.Attribute (.Name "self" p5) f p6] (.Name f p7) p8] _) _ _ _
  refine wpAt_of_wpAny (wpAny_mono (ps.run [] _ _ H { nx := fun _ H' => Q .non H', rt := fun _ _ => False } J ⟨v, rfl, .ref a, rfl, a, C, rfl, T.oex, T.noF, .inl ⟨ha, fun dx n ne => q dx n ne⟩⟩) (fun fl s' hs => ?_) (fun _ _ z => z.elim))
  cases fl with
  | next =>
    obtain ⟨σ', H', J', q'⟩ := hs
    exact ⟨.non, H', J'.os, J'.bare, J'.base, J'.hok, rfl, q'⟩
  | ret u =>
    obtain ⟨_, _, _, _, _, z⟩ := hs
    exact z.elim
  | brk =>
    obtain ⟨_, _, _, z⟩ := hs
    exact z.elim
  | cont =>
    obtain ⟨_, _, _, z⟩ := hs
    exact z.elim
end
end Pw
namespace Pw
open PySem PySem.Spec PyProof.Rows L2
/-- an own error class x with the field f: all that raising and catching it asks -/
structure ErrOk (P : Program) (w : World) (K : PySem.W.Frag) (mg : Str → Option Value) (base : Heap) (x f : Str) (C : Addr) (Okv : V → Prop) : Prop where
  oex : OexC K C
  mgC : mg x = some (.ref C)
  ini : ∃ (fI : Addr) (fd : FuncData), FnOk P w K mg base CX0 1 fI fd ["self", f] (spSup C f Okv) ∧ Binds K fd ["self", f] [] ∧ PySem.W.findIn K (.ref C) "__init__" = some (some (.ref fI)) ∧ PySem.W.typeIn K (.ref fI) = some (.type "function")
theorem pmk_err {X : Cx} {x f : Str} {C : Addr} {Okv : V → Prop} {e : Expr} {te : TE} {p pos : Pos} (T : ErrOk X.prog X.w X.K X.mg X.base x f C Okv) (hr : Room 2 X.A) (hg : Gl X x) (he : PE X e te) (hs : starEach [e] X.env = [(false, eval e X.env)] := by rfl)
    (hdb : (x == ("__debug__" : Str)) = false := by decide) : PMk X (.Call (.Name x p) [e] [] pos) (tMkO C (spSup C f Okv) [] (tCons te tNil)) := by
  obtain ⟨fI, fd, F1, hb, iC, tI⟩ := T.ini
  exact pmk_oex (dvs := []) T.oex iC tI F1 hr hb .nil (fun _ _ _ _ _ _ _ z => z.elim) hg T.mgC (pa_cons he pa_nil hs) hdb hs rfl
/-- the reading's end: the argument is v -/
theorem err_read {C : Addr} {f : Str} {Okv : V → Prop} {Q : XK} {v : V} {H1 : Hp} (hv : Okv v) (hq : ∀ d H2, Same H1 H2 → H1 d = none → H2 d = some (.xd [(f, v)]) → Q (.ref C) (some d) H2) :
    ([v] : List V).length ≤ 1000 ∧ ∀ a, H1 a = none → spSup C f Okv (.ref a :: ([v] ++ [])) (upd H1 a (exo a C none))
      (fun v2 H2 => v2 = .non ∧ ∃ (d : Addr) (fs : List (Str × V)), H2 a = some (exo a C (some d)) ∧ H2 d = some (exd d fs) ∧ H1 d = none ∧ Q (.ref C) (some d) (upd (del H2 a) d (.xd fs))) (fun _ _ _ => False) := by
  refine ⟨by show 1 ≤ 1000; decide, fun a na => ⟨a, v, rfl, hv, upd_same, fun dx nd ne => ⟨rfl, dx, [(f, v)], upd_same, ?_, ?_, ?_⟩⟩⟩
  · rw [upd_ne ne, upd_same]
  · rw [upd_ne ne] at nd
    exact nd
  · have nd1 : H1 dx = none := by
      rw [upd_ne ne] at nd
      exact nd
    refine hq dx _ (fun b o e => ?_) nd1 upd_same
    have b1 : b ≠ a := ne_of_none e na
    have b2 : b ≠ dx := ne_of_none e nd1
    rw [upd_ne b2, del_ne b1, upd_ne b1, upd_ne b2, upd_ne b1]
    exact e
end Pw

set_option Elab.async false
set_option linter.all false
set_option maxRecDepth 100000
set_option maxHeartbeats 2000000
namespace Pw
open PySem PySem.Spec PyProof.Rows L2
/-- the ends within a clause whose name is slot i -/
def asEnds (D : Ends) (i : Nat) : Ends := { nx := fun τ G => D.nx (τ.set i none) G, rt := D.rt, bk := fun τ G => D.bk (τ.set i none) G, ct := fun τ G => D.ct (τ.set i none) G }
/-- several clauses, each `except x as n`, n in slot i -/
def wAll (K : PySem.W.Frag) (i : Nat) (Wo : WX) (D : Ends) : List (Value × (Addr → Value → Option Addr → TS)) → WX
  | [] => Wo
  | (c, ts) :: r => fun cls dd τ G => ∃ b, PySem.W.exmOne K cls c = some b ∧ (b = true → ∀ a, G a = none → ts a cls dd (asEnds D i) (τ.set i (some (.ref a))) G) ∧ (b = false → wAll K i Wo D r cls dd τ G)
inductive AsOk (X : Cx) (n : Str) : List ExceptHandler → List (Value × (Addr → Value → Option Addr → TS)) → Prop
  | nil : AsOk X n [] []
  | cons {x : Str} {c : Value} {ts : Addr → Value → Option Addr → TS} {b0 : Stmt} {su : List Stmt} {p1 p2 : Pos} {hs : List ExceptHandler} {l : List (Value × (Addr → Value → Option Addr → TS))} (hc : Names X x c)
      (hsu : ∀ (a : Addr) (oe : Obj) (cls : Value) (dd : Option Addr) (pn : List (Addr × Obj)), Zc cls dd oe → (∃ vs, oe.data = .fields vs) → PSs (X.suite a ((a, oe) :: pn)) (b0 :: su) (ts a cls dd)) (r : AsOk X n hs l) :
      AsOk X n (.ExceptHandler (some (.Name x p1)) (some n) (b0 :: su) p2 :: hs) ((c, ts) :: l)
section
variable {X : Cx} {n : Str} {i : Nat} {body : List Stmt} {h0 : ExceptHandler} {hds : List ExceptHandler} {l : List (Value × (Addr → Value → Option Addr → TS))} {pos : Pos} {tb : WX → TS} {Wo : WX}
theorem ps_tryAll (hs : X.stack = X.env :: X.outer) (hf : X.env.frame = some X.env.locals) (hN : X.N.Nodup) (hi : X.N[i]? = some n) (hln : X.env.kindOf n = some .local) (tk : Takes X Wo)
    (hb : ∀ (W : WX) (pn : List (Addr × Obj)) (xe : Value → Shared → Prop), Takes (X.tr pn xe) W → PassesOwn (model X.prog X.w) X.A X.env xe → PSs (X.tr pn xe) body (tb W))
    (hh : AsOk X n (h0 :: hds) l) : PS X (.Try body (h0 :: hds) [] [] pos) (fun D τ G => tb (wAll X.K i Wo D l) D τ G) := by
  refine ⟨fun pns s τ G D I h => ?_⟩
  have xok := I.ok
  have xfr : X.A.frames = some (X.env :: X.outer) := by rw [xok.frames, hs]
  have xloc : Loc X.env.scope n := .inl hln
  refine wpAny_Try_except (wpAny_mono ((hb (wAll X.K i Wo D l) (X.pn ++ pns) (fun e s1 => wpAny (model X.prog X.w) X.A (noteFrame e X.env) (fun _ s2 => wpAny (model X.prog X.w) X.A (setFlight e none) (fun _ s3 =>
    wpAny (model X.prog X.w) X.A (handleBy e X.env (h0 :: hds)) (SP X pns D) X.xe s3) X.xe s2) X.xe s1) (fun u s' xx => ?_) PassesOwn.looking).run [] s τ G D (I.toTry _) h) (fun f s1 hsp => ?_) (fun e s1 he => he))
  · obtain ⟨a, B, sI, pns', τ', G', cls, dd, rfl, Jt, nb, up, sky, na, os, ag, ww⟩ := xx
    have J : Inv X pns τ' G' sI := Jt.ofTry xok
    have sky1 : Sky B (X.env :: X.outer) a (Zc cls dd) X.env.locals s'.heap := by rw [← hs]; exact sky
    show wpAny (model X.prog X.w) X.A (noteFrame (.ref a) X.env) _ _ _
    refine Sky.land Zc.steady xfr hf sky1 fun k3 fl3 up3 => ?_
    have J3 : Inv X pns τ' G' { s' with heap := k3 } := J.landed nb fl3.1 (up.trans up3) os ag
    obtain ⟨ob3, vs3, he3, hz3, hd3⟩ := fl3.there
    have nfr : a ∉ frs (X.env :: X.outer) := fun hm => by
      obtain ⟨_, oo, ee, hnf⟩ := fl3.2.2.1.mem hm
      rw [he3] at ee
      cases ee
      exact hnf _ hd3
    have nL : a ≠ X.env.locals := fun z => nfr (List.mem_filterMap.mpr ⟨X.env, List.mem_cons_self, by rw [hf, z]⟩)
    have nF : a ∉ X.fs := fun hm => by
      obtain ⟨e, he, qq⟩ := List.mem_filterMap.mp hm
      exact nfr (List.mem_filterMap.mpr ⟨e, List.mem_cons_of_mem _ he, qq⟩)
    have S3 := J3.suite he3 hd3 na nL nF
    have go : ∀ {hs' : List ExceptHandler} {l' : List (Value × (Addr → Value → Option Addr → TS))}, AsOk X n hs' l' → wAll X.K i Wo D l' cls dd τ' G' →
        wpAny (model X.prog X.w) X.A (handleBy (.ref a) X.env hs') (SP X pns D) X.xe { s' with heap := k3 } := by
      intro hs' l' hk
      induction hk with
      | nil =>
        intro ww
        refine wpAny_handleBy_nil ?_
        obtain ⟨_, _, _, ob, vs, T, oT, ts', he, hz, hd, h1, hr⟩ := id fl3
        unfold PySem.passOn
        refine wpAny_bind (wpAny_field he hd h1 ?_)
        rw [if_neg (show ¬ ((Value.ref T == Value.none) = true) from by simp)]
        have fin : wpAny (model X.prog X.w) X.A (setFlight (.ref a) X.env.frame) (fun _ s4 => wpAny (model X.prog X.w) X.A (throw (.ref a) : Sem Flow) (SP X pns D) X.xe s4) X.xe { s' with heap := k3 } := by
          rw [hf]
          exact HandSPX.setFlight_upZ fl3 fun k4 hh4 up4 => wpAny_throw (tk _ _ ⟨a, B, sI, pns, τ', G', cls, dd, rfl, J, nb, (up.trans up3).trans up4, .inr (.inr (by rw [hs]; exact hh4)), na, os, ag, ww⟩)
        first
          | exact wpAny_bind (wpAny_pure (wpAny_bind fin))
          | exact wpAny_bind fin
      | @cons x c ts b0 su p1 p2 hs2 l2 hc hsu r ih =>
        intro ww
        obtain ⟨b, hb1, hyes, hno⟩ := ww
        refine wpAny_handleBy_cons (codeAny_handlers_test ?_) (by intro q; cases q)
        have LT : PySem.W.Looks (model X.prog X.w) k3 (typeOf (.ref a)) cls := fun A Q E s k q => wpAny_typeOf_ref (k _ _ he3) (by rw [hz3.1]; exact q)
        have LM := PySem.W.exm_one (M := model X.prog X.w) (J3.kIn) LT hb1
        have test : ∀ {Q : Value → Shared → Prop} {E : Value → Shared → Prop}, Q c { s' with heap := k3 } → wpAny (model X.prog X.w) (X.A.mark (some (.ref a))) (eval (.Name x p1) X.env) Q E { s' with heap := k3 } := fun {Q E} q => by
          obtain ⟨hg, hdbg, hm | ⟨hm, hv, hnn⟩⟩ := hc
          · exact ld_glob (X := X.suite a ((a, ob3) :: (X.pn ++ pns))) S3 hg hm q hdbg
          · exact ld_blt (X := X.suite a ((a, ob3) :: (X.pn ++ pns))) S3 hg hm hv q hnn hdbg
        refine test (LM.here ?_)
        cases b with
        | true =>
          refine codeAny_handlers_suite_as ?_
          refine HandSPX.lands_againZ fl3 fun k4 fl4 up4 => ?_
          have J4 : Inv X pns τ' G' { s' with heap := k4 } := J.landed nb fl4.1 ((up.trans up3).trans up4) os ag
          obtain ⟨ob4, vs4, he4, hz4, hd4⟩ := fl4.there
          have S4 := J4.suite he4 hd4 na nL nF
          refine store_ok (X := X.suite a ((a, ob4) :: (X.pn ++ pns))) (v := .ref a) S4 hN hi xloc rfl (fun s5 S5 => ?_) (.inr hln)
          refine wpAny_mono ((hsu a ob4 cls dd (X.pn ++ pns) hz4 ⟨_, hd4⟩).run [] s5 _ G' _ S5 (hyes rfl a na)) (fun f s6 hsp => ?_) (fun _ _ z => False.elim z)
          have en : ∀ {τ6 : L2.St} {G6 : Hp} {Q : Shared → Prop}, Inv (X.suite a ((a, ob4) :: (X.pn ++ pns))) [] τ6 G6 s6 → (∀ s7, Inv X pns (τ6.set i none) G6 s7 → Q s7) →
              wpAny (model X.prog X.w) X.A (do bindName X.env n .none; unbindBehindTheSuite X.env n p2) (fun _ s7 => Q s7) X.xe s6 := fun {τ6 G6 Q} S6 hq => gone_ok (S6.unsuite xok) hN hi hln hq
          cases f with
          | next =>
            obtain ⟨τ6, G6, S6, q6⟩ := hsp
            exact en S6 fun s7 J7 => ⟨_, _, J7, q6⟩
          | brk =>
            obtain ⟨τ6, G6, S6, q6⟩ := hsp
            exact en S6 fun s7 J7 => ⟨_, _, J7, q6⟩
          | cont =>
            obtain ⟨τ6, G6, S6, q6⟩ := hsp
            exact en S6 fun s7 J7 => ⟨_, _, J7, q6⟩
          | ret u =>
            obtain ⟨v6, τ6, G6, S6, r6, q6⟩ := hsp
            exact en S6 fun s7 J7 => ⟨_, _, _, J7, r6, q6⟩
        | false =>
          show wpAny _ X.A (handleBy (.ref a) X.env hs2) _ _ _
          exact ih (hno rfl)
    exact go hh ww
  · cases f with
    | next =>
      obtain ⟨τ', G', Jt, q⟩ := hsp
      exact wpAny_execs_nil ⟨τ', G', Jt.ofTry xok, q⟩
    | brk =>
      obtain ⟨τ', G', Jt, q⟩ := hsp
      exact ⟨τ', G', Jt.ofTry xok, q⟩
    | cont =>
      obtain ⟨τ', G', Jt, q⟩ := hsp
      exact ⟨τ', G', Jt.ofTry xok, q⟩
    | ret u =>
      obtain ⟨v, τ', G', Jt, r, q⟩ := hsp
      exact ⟨v, τ', G', Jt.ofTry xok, r, q⟩
end
end Pw

set_option Elab.async false
set_option linter.all false
set_option maxRecDepth 100000
set_option maxHeartbeats 2000000
namespace Pw
open PySem PySem.Spec PyProof.Rows L2 LamX
section
variable {X : Cx} {pins : List (Addr × Obj)} {σ : L2.St} {H HZ : Hp} {s s1 : Shared}
/-- x() in the def that got the lambda; what the lambda lets out is wished for at the slots as they stand -/
theorem pe_actW {CXg : CXT} {Eg : XK} {Ng : List Str} {qg : Str} {sg : Scope} {g f c' : Addr} {cdg pm ctv : Value} {params : Arguments} {body : Expr} {scope : Scope} {k i : Nat} {a : Str} {pn : List (Addr × Obj)} {xe : Value → Shared → Prop} {W : WX} {tb : XK → TE} {p1 p2 : Pos}
    (I : Inv X pins σ H s) (L : LamS X.env.scope scope) (hf : s.heap.get? f = some (PySem.W.kla_obj "<lambda>" (X.env.qual ++ "<lambda>") params body scope (cloFrom X.env.cells scope.names []) pm c' ctv)) (hfn : H f = none) (hfr : f ∉ frs X.stack)
    (hbind : bindArgs (PySem.W.kla_fn "<lambda>" (X.env.qual ++ "<lambda>") params body scope (cloFrom X.env.cells scope.names []) pm (.ref c') ctv) ⟨[], []⟩ = pure [])
    (tk : Takes ((cxOf CXg X.prog X.w X.K X.mg X.base Ng qg sg g cdg X.A X.stack s H Eg).tr pn xe) W) (hr : Room (k + 1) (X.A.deeper (envOfC qg sg s.heap.objs.size g cdg)))
    (hbody : ∀ (A : Around) (outer : List Env) (s : Shared) (H : Hp) (E : XK), Room k (A.deeper (lamEnv X scope s.heap.objs.size f c')) → PE (lamCx X A outer s H E scope f c') body (tb E))
    (hN : Ng[i]? = some a) (hv : Vis sg a) (hd : (a == ("__debug__" : Str)) = false := by decide) (hcd : (a == ("__classdict__" : Str)) = false := by decide) :
    PE ((cxOf CXg X.prog X.w X.K X.mg X.base Ng qg sg g cdg X.A X.stack s H Eg).tr pn xe) (.Call (.Name a p1) [] [] p2)
      (fun σZ HZ Q => ∃ (E : XK) (Q' : VK), (∀ cls dd G, E cls dd G → W cls dd σZ G) ∧ (∀ v G, Q' v G → Q v G) ∧ σZ[i]? = some (some (.ref f)) ∧ HZ c' = some (CodeO c' (X.env.qual ++ "<lambda>")) ∧ tb E σ HZ Q') := by
  refine ⟨fun pZ sZ σZ HZ Q IZ h => ?_⟩
  obtain ⟨E, Q', hE, hQ, hs, hc, ht⟩ := h
  refine wpAny_Call_Name_kw (thn ((pe_var (pos := p1) (i := i) hN hv hd hcd).run pZ sZ σZ HZ (fun v H1 => v = .ref f ∧ H1 = HZ) IZ ⟨.ref f, hs, rfl, rfl⟩) fun u s1 ⟨v, H1, I1, r1, q1⟩ => ?_)
  obtain ⟨ev, eH⟩ := q1
  subst ev
  rw [eH] at I1
  obtain rfl : u = Value.ref f := r1
  have of1 : s1.heap.get? f = some (PySem.W.kla_obj "<lambda>" (X.env.qual ++ "<lambda>") params body scope (cloFrom X.env.cells scope.names []) pm c' ctv) := I1.base.keep f _ hf hfn hfr (fun z => nomatch (show f ∈ ([] : List Addr) from z))
  refine PySem.W.callWith_F0 ⟨_, _, _, _, of1⟩ ?_
  have un1 : Un (frs X.stack) [] H HZ s.heap s1.heap := I1.base
  obtain ⟨⟨oc, vs, t, hoc, hdc, hvc⟩, _, _⟩ := I1.hok c' _ hc
  have rc : codeAny (model X.prog X.w) (X.A.deeper (envOfC qg sg s.heap.objs.size g cdg)) (.call (.ref f) ⟨[], []⟩) (CR (L2.CX X.prog X.w) (envOfC qg sg s.heap.objs.size g cdg :: X.stack) X.prog X.w HZ s1 Q' E) s1 := by
    refine PySem.W.kla_callFunE hr.depth of1 rfl L.co L.gen rfl ⟨c', oc, vs, t, rfl, hoc, hdc, hvc⟩ ?_
    rw [hbind]
    refine wpAny_pure (wpAny_newFunctionEnv (fun y hy => (L.own y hy).2) (fun y hy => absurd hy (by simp)) (fun h₁ hns hsb => ⟨I1.nolimit.fresh _ hsb, ?_⟩) L.kind)
    show codeAny _ _ (.expr body (lamEnv X scope s1.heap.objs.size f c')) _ _
    have kp : ∀ b o, s1.heap.get? b = some o → h₁.get? b = some o := fun b o e => hsb.extBut b o (Nat.ne_of_lt (Heap.lt_size e)) (Heap.get?_push_of_some _ e)
    have J : Inv (lamCx X (X.A.deeper (envOfC qg sg s.heap.objs.size g cdg)) (envOfC qg sg s.heap.objs.size g cdg :: X.stack) s1 HZ E scope f c') [] σ HZ { s1 with heap := h₁, toks := s1.toks + ([] : List (Str × Value)).length } := lam_start2 I L I1.env0 hr.hd un1 hns kp
    refine PySem.W.kla_codeExpr (wpAny_mono ((hbody _ _ s1 HZ E (hr.deeper _)).run [] _ _ HZ Q' J ht) (fun v s' hq => ?_) fun e s' hq => hq)
    obtain ⟨w', G, J', rv, q⟩ := hq
    exact ⟨w', G, J'.os, J'.bare, J'.base, J'.hok, rv, q⟩
  refine wpAny_call (codeAny_mono rc fun r s' hq => ?_)
  cases r with
  | error e => exact tk e s' (XE.of_call I1 hE hq)
  | ok fl =>
    cases fl with
    | ret u =>
      obtain ⟨v, G, J, rv, q⟩ := I1.after hq
      exact ⟨v, G, J, rv, hQ v G q⟩
    | next => exact False.elim hq
    | brk => exact False.elim hq
    | cont => exact False.elim hq
end
/-- the def g(a) that calls what it got -/
def GivesW (X : Cx) (Ng : List Str) (x : Str) (sg : Scope) (g : Addr) (cdg : Value) (bg : List Stmt) (a : Str) (q : Str) (TT : (XK → Hp → VK → Prop) → Hp → VK → Prop) : Prop :=
  ∀ (f c' : Addr) (s : Shared) (H : Hp) (Q : VK) (tl : XK → Hp → VK → Prop),
    (∀ (W : WX) (pn : List (Addr × Obj)) (xe : Value → Shared → Prop) (p1 p2 : Pos), Takes ((cxOf C8.CX0 X.prog X.w X.K X.mg X.base Ng x sg g cdg X.A X.stack s H C8.E0).tr pn xe) W →
      PE ((cxOf C8.CX0 X.prog X.w X.K X.mg X.base Ng x sg g cdg X.A X.stack s H C8.E0).tr pn xe) (.Call (.Name a p1) [] [] p2)
        (fun σZ HZ Q => ∃ (E : XK) (Q' : VK), (∀ cls dd G, E cls dd G → W cls dd σZ G) ∧ (∀ v G, Q' v G → Q v G) ∧ σZ[0]? = some (some (.ref f)) ∧ HZ c' = some (CodeO c' q) ∧ tl E HZ Q')) →
    H c' = some (CodeO c' q) → TT tl H Q →
    ∃ t, PSs (cxOf C8.CX0 X.prog X.w X.K X.mg X.base Ng x sg g cdg X.A X.stack s H C8.E0).nox bg t ∧ t { nx := fun _ G => Q .non G, rt := Q } (L2.start Ng [.ref f]) H
section
variable {X : Cx}
/-- g(lambda: body) -/
theorem pe_lamW {T : List (Addr × Str)} {TT : (XK → Hp → VK → Prop) → Hp → VK → Prop} {x a : Str} {g c P : Addr} {k : Nat} {pg : Arguments} {bg : List Stmt} {sg : Scope} {dV kV doc pm cdv ct oc : Value} {an od : Option Addr} {osl : Array (Option Value)} {Ng : List Str}
    {params : Arguments} {body : Expr} {scope : Scope} {t : XK → TE} {p lpos pos : Pos} (hg : Gl X x) (hm : X.mg x = some (.ref g)) (hk : PySem.W.keepIn X.K (.ref g) = true)
    (lk : X.K.lookup g = some ⟨oc, od, .func (PySem.W.fnOf x x pg bg sg dV kV doc pm an cdv ct), osl⟩) (hcg : PySem.W.codeIn X.K cdv x = true) (hb : L2.Binds X.K (PySem.W.fnOf x x pg bg sg dV kV doc pm an cdv ct) [a] []) (Sg : FnScope Ng [a] sg) (hNg : Ng[0]? = some a) (hva : Vis sg a)
    (hG : GivesW X Ng x sg g cdv bg a (X.env.qual ++ "<lambda>") TT)
    (TB : TabB X.base X.mg c P) (hcode : X.env.code = .ref c) (hmT : (P, X.env.qual ++ "<lambda>") ∈ T) (hu : ∀ p ∈ T, p.1 = P → p.2 = X.env.qual ++ "<lambda>") (hr : Room (k + 2) X.A) (L : LamS X.env.scope scope) (hdef : defaultsOf params X.env = ([], []))
    (hbind : ∀ (q : Str) (cl : List (Str × Addr)) (pm cv ctv : Value), bindArgs (PySem.W.kla_fn "<lambda>" q params body scope cl pm cv ctv) ⟨[], []⟩ = pure [])
    (hbody : ∀ (A : Around) (outer : List Env) (s : Shared) (H : Hp) (E : XK) (f c' : Addr), Room k (A.deeper (lamEnv X scope s.heap.objs.size f c')) → PE (lamCx X A outer s H E scope f c') body (t E))
    (hdb : (x == ("__debug__" : Str)) = false := by decide) (hd : (a == ("__debug__" : Str)) = false := by decide) (hcd : (a == ("__classdict__" : Str)) = false := by decide) :
    PE X (.Call (.Name x p) [.Lambda params body scope lpos] [] pos) (tLam T TT t) := by
  refine ⟨fun pns s τ G Q I h => ?_⟩
  obtain ⟨hT, h⟩ := h
  refine wpAny_Call_Name_kw (ld_glob I hg hm (PySem.W.callWith_K (h₀ := X.base) I.ok.mod.kin hk ?_ (by rfl) (by rfl)) hdb)
  show wpAny _ _ (spliced ((false, eval (.Lambda params body scope lpos) X.env) :: backTo pos (starEach [] X.env))) _ _ s
  refine Calls.spliced_cons (lam_make2 I TB hcode hmT hu hT hdef (L.has I.ok) fun f c' pm' ctv H1 s' I1 eN T1 hf hfn hfr hco => Calls.spliced_nil ⟨I1.kIn, ?_⟩)
  have rc : codeAny (model X.prog X.w) X.A (.call (.ref g) ⟨[.ref f], []⟩) (CR C8.CX0 X.stack X.prog X.w H1 s' Q C8.E0) s' := by
    refine run_ofS (N := Ng) (ps := [a]) (us := [.ref f]) (vs := [.ref f]) lk hcg Sg hr I1.env0 (hb s' [.ref f] I1.kIn rfl) (.cons rfl .nil) rfl fun hr' => ?_
    obtain ⟨t', ht', hq'⟩ := hG f c' s' H1 Q (fun E G' Q' => t E τ G' Q') (fun W pn xe p1 p2 tk => pe_actW (i := 0) I1 L hf hfn hfr (hbind _ _ _ _ _) tk hr' (fun A outer s H E hr2 => hbody A outer s H E f c' hr2) hNg hva hd hcd) hco (h H1 eN T1)
    exact ⟨t', ht'.nox, hq'⟩
  refine wpAny_call (codeAny_mono rc fun r s2 hq => ?_)
  cases r with
  | error e => exact (show False from hq).elim
  | ok fl =>
    cases fl with
    | ret u => exact I1.after hq
    | next => exact False.elim hq
    | brk => exact False.elim hq
    | cont => exact False.elim hq
/-- behind the try of why: return (told, word) -/
def whyEnds (Q : VK) : Ends := { nx := tRet (tTup (tCons (tVar 1) (tCons (tVar 2) tNil))) { nx := fun _ G => Q .non G, rt := Q }, rt := Q }
/-- told = None; word = ''; try: told = a() / except .. as e: ..; return (told, word) -/
def TTwhy (K : PySem.W.Frag) (l : List (Value × (Addr → Value → Option Addr → TS))) : (XK → Hp → VK → Prop) → Hp → VK → Prop := fun tl H Q =>
  ∃ (E : XK) (Q' : VK), (∀ (f : Addr) cls dd G, E cls dd G → wAll K 3 (fun _ _ _ _ => False) (whyEnds Q) l cls dd [some (.ref f), some .non, some (.str ""), none] G) ∧
    (∀ v G, Q' v G → ∀ p, G p = none → Q (.ref p) (upd G p (.tup [v, .str ""]))) ∧ tl E H Q'
theorem why_gives {x a tn wn en q : Str} {sg : Scope} {g : Addr} {cdg : Value} {j1 j2 : Nat} {j3 : Nat} {h0 : ExceptHandler} {hds : List ExceptHandler} {l : List (Value × (Addr → Value → Option Addr → TS))} {p1 p2 p3 p4 p5 p6 p7 p8 p9 p10 p11 p12 p13 p14 p15 : Pos}
    (S : FnScope [a, tn, wn, en] [a] sg) (k1 : sg.names.lookup tn = some .local) (k2 : sg.names.lookup wn = some .local) (k3 : sg.names.lookup en = some .local)
    (d1 : (tn == ("__debug__" : Str)) = false) (d2 : (tn == ("__classdict__" : Str)) = false) (d3 : (wn == ("__debug__" : Str)) = false) (d4 : (wn == ("__classdict__" : Str)) = false)
    (hcl : ∀ (s : Shared) (H : Hp), AsOk (cxOf C8.CX0 X.prog X.w X.K X.mg X.base [a, tn, wn, en] x sg g cdg X.A X.stack s H C8.E0).nox en (h0 :: hds) l) :
    GivesW X [a, tn, wn, en] x sg g cdg [.Assign [.Name tn p1] (.Constant .none j1 p2) p3, .Assign [.Name wn p4] (.Constant (.str "") j2 p5) p6, .Try [.Assign [.Name tn p7] (.Call (.Name a p8) [] [] p9) p10] (h0 :: hds) [] [] p11, .Return (some (.Tuple [.Name tn p12, .Name wn p13] j3 p14)) p15] a q (TTwhy X.K l) := by
  intro f c' s H Q tl act hc h
  obtain ⟨E, Q', hE, hQ, h⟩ := h
  refine ⟨_, pss_cons (ps_set (i := 1) S.nd rfl (.inl k1) pe_non) (pss_cons (ps_set (i := 2) S.nd rfl (.inl k2) pe_str)
    (pss_cons (ps_tryAll (i := 3) (n := en) (Wo := fun _ _ _ _ => False) (tb := fun W => tAsg (fun σZ HZ Q => ∃ (E : XK) (Q' : VK), (∀ cls dd G, E cls dd G → W cls dd σZ G) ∧ (∀ v G, Q' v G → Q v G) ∧ σZ[0]? = some (some (.ref f)) ∧ HZ c' = some (CodeO c' q) ∧ tl E HZ Q') (gName 1)) rfl rfl S.nd rfl k3
      (fun _ _ z => by obtain ⟨_, _, _, _, _, _, _, _, _, _, _, _, _, _, _, _, z⟩ := z; exact z.elim)
      (fun W pn xe tk _ => pss_one (ps_set (i := 1) S.nd rfl (.inl k1) (act W pn xe p8 p9 tk))) (hcl s H))
    (pss_one (ps_ret (pe_tup (pa_cons (pe_var (i := 1) rfl (.inl k1) d1 d2) (pa_cons (pe_var (i := 2) rfl (.inl k2) d3 d4) pa_nil))))))), ?_⟩
  refine ⟨E, Q', fun cls dd G e => hE f cls dd G e, fun v G q => ?_, rfl, hc, h⟩
  exact ⟨v, rfl, .str "", rfl, by show 2 ≤ sizeLine; decide, fun p hp => hQ v G q p hp⟩
end
end Pw

set_option Elab.async false
set_option linter.all false
set_option maxRecDepth 100000
set_option maxHeartbeats 2000000
namespace Pw
open PySem PySem.Spec PyProof.Rows L2
/-- enumerate(text): each sign in a new pair with its place -/
def Ites (x : Str) : It := ⟨fun i _ => i < x.cps.size, fun i H v H' => ∃ T c, v = .ref T ∧ H T = none ∧ x.cps[i]? = some c ∧ H' = upd H T (.tup [.int (i : Nat), .str ⟨#[c]⟩]), fun i _ => x.cps.size ≤ i⟩
theorem turn_enumS {P : Program} {w : World} {K : PySem.W.Frag} {elts : List Expr} {kk : Nat} {tpos : Pos} (x : Str) (t : Tok) (e it : Addr) :
    Turn P w K (.Tuple elts kk tpos) (Ites x) [e, it] e (fun i h => i ≤ x.cps.size ∧ (∃ old, IsEnum h e it ((i : Nat) : Int) old) ∧ h.IsStrIter it (strIterType x) x t i ∧ e ≠ it) where
  mem := by simp
  obj := fun i h st b hb => by
    obtain ⟨_, ⟨old, he⟩, ⟨o, ho, hc, hd⟩, _⟩ := st
    have e' : b = e ∨ b = it := by simpa using hb
    rcases e' with z | z
    · rw [z]
      exact ⟨_, he, fun v q => nomatch q⟩
    · rw [z]
      exact ⟨o, ho, fun v q => by rw [hd] at q; cases q⟩
  keep := fun i h h' st k => let ⟨hn, ⟨old, he⟩, ⟨o, ho, r⟩, hne⟩ := st; ⟨hn, ⟨old, k e (by simp) _ he⟩, ⟨o, k it (by simp) o ho, r⟩, hne⟩
  item := by
    intro X hP hw hK hc i pins s σ H E I hf st hg
    subst hP hw hK
    obtain ⟨_, ⟨old, he⟩, hit, hne⟩ := st
    have hel : e < s.heap.objs.size := Heap.lt_size he
    have hil : it < s.heap.objs.size := by obtain ⟨_, q, _⟩ := hit; exact Heap.lt_size q
    have Dr := Draws.text (prog := X.prog) (w := X.w) (A := X.A.in1) (show X.A.in1.handled = none from I.ok.hd hc) it x t
    refine wpAny_pyNext_enum_itemD Dr he hit hg hne (by simpa using hne) fun u h' tk hu ho hit' hT hsz hk => ?_
    obtain ⟨c, tc, hcx, rfl⟩ := hu
    refine ⟨_, rfl, wpAny_letOwnedTupleGo_enum (s := { s with heap := h', toks := tk + 1 }) ho fun h'' he' sb => ?_⟩
    have hT2 : h''.get? s.heap.objs.size = some { cls := .type "tuple", data := .seq #[.int i tk, .str ⟨#[c]⟩ tc] } := (sb.2 _ (Nat.ne_of_gt hel)).trans hT
    have new : ObjOk X.prog X.w (upd H s.heap.objs.size (.tup [.int (i : Nat), .str ⟨#[c]⟩])) h'' s.heap.objs.size (.tup [.int (i : Nat), .str ⟨#[c]⟩]) :=
      ⟨by show 2 ≤ sizeLine; decide, [.int i tk, .str ⟨#[c]⟩ tc], .cons ⟨_, rfl⟩ (.cons ⟨_, rfl⟩ .nil), ⟨_, hT2, rfl, _, rfl⟩⟩
    have I1 : Inv X pins σ (upd H s.heap.objs.size (.tup [.int (i : Nat), .str ⟨#[c]⟩])) { s with heap := h'', toks := tk + 1 } :=
      I.turnedNew (ch := [e, it]) (fun b ob hb q => (sb.2 b (fun z => hb (by simp [z]))).trans (hk b ob (fun z => hb (by simp [z])) (fun z => hb (by simp [z])) q)) hf (Nat.le_refl _) new
    obtain ⟨oi, ei, ri⟩ := hit'
    refine ⟨.ref s.heap.objs.size, _, I1, rfl, ⟨_, c, rfl, I.hok.fresh (Nat.le_refl _), hcx, rfl⟩, ⟨hg, ⟨.str ⟨#[c]⟩ tc, ?_⟩, ⟨oi, (sb.2 it (Ne.symm hne)).trans ei, ri⟩, hne⟩, fun b hb => ?_⟩
    · have e1 : ((i + 1 : Nat) : Int) = (i : Int) + 1 := by omega
      rw [e1]
      exact he'
    · have hb' : b < s.heap.objs.size := by
        have e' : b = e ∨ b = it := by simpa using hb
        rcases e' with z | z
        · rw [z]
          exact hel
        · rw [z]
          exact hil
      rw [upd_ne (Nat.ne_of_lt hb')]
      exact (hf b hb).1
  done := by
    intro X hP hw hK hc i pins s σ H E I hf st hg
    subst hP hw hK
    obtain ⟨hn, ⟨old, he⟩, hit, hne⟩ := st
    have hg : x.cps.size ≤ i := hg
    obtain rfl : i = x.cps.size := by omega
    obtain ⟨f0, f1, f2, f3, f4, f5⟩ := hf it (by simp)
    have Dr := Draws.text (prog := X.prog) (w := X.w) (A := X.A.in1) (show X.A.in1.handled = none from I.ok.hd hc) it x t
    exact wpAny_pyNext_enum_endD Dr he hit fun h' eb => ⟨rfl, I.turned (t' := s.toks) (fun b o hb q => eb b o hb q) f0 f1 f3 f4 f5⟩
  self := fun A i s Q E st h => let ⟨_, ⟨_, he⟩, _⟩ := st; wpAny_pyIter_enum he h
def iEnumS (ta : TA) : TI := fun σ H R => ta σ H fun vs H1 => ∃ x, vs = [.str x] ∧ R (Ites x) H1
theorem pi_enumS {X : Cx} {e : Expr} {ta : TA} {p pos tpos : Pos} {elts : List Expr} {kk : Nat} (hg : Gl X "enumerate") (hm : X.mg "enumerate" = none) (ha : PA X [e] ta) (hs : starEach [e] X.env = [(false, eval e X.env)] := by rfl) :
    PI X (.Tuple elts kk tpos) (.Call (.Name "enumerate" p) [e] [] pos) (iEnumS ta) := by
  refine ⟨fun pns s τ G R I h => ?_⟩
  refine Call_ (ld_blt I hg hm boot_enumerate (PyProof.Rows.callWith_type1 (thn (ha.run pos pns s τ G _ I h) fun us s1 ⟨vs, H1, I1, r1, q1⟩ => ?_) hs rfl))
  obtain ⟨x, ex, q⟩ := q1
  subst ex
  cases r1 with
  | cons r rr =>
    cases rr
    obtain ⟨t, rfl⟩ := r
    refine call_enumerate_str fun h' he hit hsz hk => wpAny_pyIter_enum he ?_
    have I2 : Inv X pns τ H1 { s1 with heap := h' } := I1.kept (t' := s1.toks) hk
    refine ⟨s1.heap.objs.size + 1, [s1.heap.objs.size + 1, s1.heap.objs.size], _, _, H1, rfl, I2, turn_enumS x t (s1.heap.objs.size + 1) s1.heap.objs.size, ⟨Nat.zero_le _, ⟨.none, he⟩, hit, Nat.succ_ne_self _⟩, fun b hb => ?_, q⟩
    have e' : b = s1.heap.objs.size + 1 ∨ b = s1.heap.objs.size := by simpa using hb
    have hle : s1.heap.objs.size ≤ b := by
      rcases e' with z | z
      · rw [z]
        exact Nat.le_add_right _ _
      · rw [z]
        exact Nat.le_refl _
    exact I1.fpOk hle (I1.hok.fresh hle)
/-- for i, c in enumerate(text) -/
theorem for_enumS {x : Str} {g : TG} {tb : TS} {D : Ends} {σ : L2.St} {H : Hp} (Pv : Nat → L2.St → Hp → Prop) (h0 : Pv 0 σ H)
    (hs : ∀ i c σ H T, x.cps[i]? = some c → Pv i σ H → H T = none → g (.ref T) σ (upd H T (.tup [.int (i : Nat), .str ⟨#[c]⟩])) fun σ2 H2 => tb { D with nx := Pv (i + 1), ct := Pv (i + 1), bk := D.nx } σ2 H2)
    (hd : ∀ σ H, Pv x.cps.size σ H → D.nx σ H) :
    ∃ W : Nat → Nat → L2.St → Hp → Prop, (∃ m, W 0 m σ H) ∧ ∀ i m σ H, W i m σ H →
      ((Ites x).stop i H ∧ D.nx σ H) ∨ ((Ites x).go i H ∧ ∃ N : L2.St → Hp → Prop, (∀ σ' H', N σ' H' → ∃ m', m' < m ∧ W (i + 1) m' σ' H') ∧ ∀ v H', (Ites x).yld i H v H' → g v σ H' fun σ2 H2 => tb { D with nx := N, ct := N, bk := D.nx } σ2 H2) := by
  refine ⟨fun i m σ H => m = x.cps.size - i ∧ i ≤ x.cps.size ∧ Pv i σ H, ⟨x.cps.size, by simp, Nat.zero_le _, h0⟩, ?_⟩
  rintro i m σ H ⟨rfl, hi, p⟩
  by_cases hlt : i < x.cps.size
  · refine .inr ⟨hlt, Pv (i + 1), fun σ' H' p' => ⟨x.cps.size - (i + 1), by omega, rfl, hlt, p'⟩, fun v H' y => ?_⟩
    obtain ⟨T, c, rfl, nT, hc, rfl⟩ := y
    exact hs i c σ H T hc p nT
  · have e : i = x.cps.size := by omega
    subst e
    exact .inl ⟨Nat.le_refl _, hd σ H p⟩
/-- for c in text -/
theorem for_str {x : Str} {g : TG} {tb : TS} {D : Ends} {σ : L2.St} {H : Hp} (Pv : Nat → L2.St → Hp → Prop) (h0 : Pv 0 σ H)
    (hs : ∀ i c σ H, x.cps[i]? = some c → Pv i σ H → g (.str ⟨#[c]⟩) σ H fun σ2 H2 => tb { D with nx := Pv (i + 1), ct := Pv (i + 1), bk := D.nx } σ2 H2)
    (hd : ∀ σ H, Pv x.cps.size σ H → D.nx σ H) :
    ∃ W : Nat → Nat → L2.St → Hp → Prop, (∃ m, W 0 m σ H) ∧ ∀ i m σ H, W i m σ H →
      ((Its x).stop i H ∧ D.nx σ H) ∨ ((Its x).go i H ∧ ∃ N : L2.St → Hp → Prop, (∀ σ' H', N σ' H' → ∃ m', m' < m ∧ W (i + 1) m' σ' H') ∧ ∀ v H', (Its x).yld i H v H' → g v σ H' fun σ2 H2 => tb { D with nx := N, ct := N, bk := D.nx } σ2 H2) := by
  refine ⟨fun i m σ H => m = x.cps.size - i ∧ i ≤ x.cps.size ∧ Pv i σ H, ⟨x.cps.size, by simp, Nat.zero_le _, h0⟩, ?_⟩
  rintro i m σ H ⟨rfl, hi, p⟩
  by_cases hlt : i < x.cps.size
  · refine .inr ⟨hlt, Pv (i + 1), fun σ' H' p' => ⟨x.cps.size - (i + 1), by omega, rfl, hlt, p'⟩, fun v H' y => ?_⟩
    obtain ⟨rfl, c, hc, rfl⟩ := y
    exact hs i c σ _ hc p
  · have e : i = x.cps.size := by omega
    subst e
    exact .inl ⟨Nat.le_refl _, hd σ H p⟩
end Pw

set_option Elab.async false
set_option linter.all false
set_option maxRecDepth 100000
namespace Pw
open PySem PySem.Builtin PySem.Builtin.Str PySem.StrLaws TL

/-! ### signs -/
def bad (c : Nat) : Bool := c != 48 && c != 49
/-- the first stranger's place -/
def strange (l : List Nat) : Option Nat := l.findIdx? bad
/-- a text of 0s and 1s alone -/
def Pure (l : List Nat) : Prop := ∀ c ∈ l, c = 48 ∨ c = 49
theorem pure_of {l : List Nat} (h : strange l = none) : Pure l := fun c hc => by
  have := List.findIdx?_eq_none_iff.mp h c hc
  simp [bad] at this
  by_cases e : c = 48
  · exact .inl e
  · exact .inr (this e)
theorem strange_none {l : List Nat} (h : Pure l) : strange l = none := by
  refine List.findIdx?_eq_none_iff.mpr fun c hc => ?_
  rcases h c hc with e | e <;> simp [bad, e]
theorem strange_take {l : List Nat} {i c : Nat} (h : l[i]? = some c) (hp : Pure (l.take i)) : bad c = true → strange l = some i := fun hb => by
  obtain ⟨hi, e⟩ := List.getElem?_eq_some_iff.mp h
  refine List.findIdx?_eq_some_iff_getElem.mpr ⟨hi, by rw [e]; exact hb, fun j hj => ?_⟩
  have hm : l[j] ∈ l.take i := List.mem_take_iff_getElem.mpr ⟨j, by omega, rfl⟩
  rcases hp _ hm with q | q <;> simp [bad, q]
theorem pure_more {l : List Nat} {i c : Nat} (h : l[i]? = some c) (hp : Pure (l.take i)) (hb : bad c = false) : Pure (l.take (i + 1)) := fun d hd => by
  rw [List.take_add_one, h] at hd
  rcases List.mem_append.mp hd with q | q
  · exact hp d q
  · obtain rfl : d = c := by simpa using q
    simp [bad] at hb
    by_cases e : d = 48
    · exact .inl e
    · exact .inr (hb e)
theorem strange_lt {l : List Nat} {i : Nat} (h : strange l = some i) : i < l.length := (List.findIdx?_eq_some_iff_getElem.mp h).1

/-! ### count of one sign -/
theorem at_sign {x y : Str} {s : Nat} (hy : tl y = [s]) (i : Nat) : At x y x.length i ↔ (tl x)[i]? = some s := by
  rw [at_iff (by rw [hy]; simp), hy]
  show ((List.drop i (tl x)).take 1 == [s]) = true ↔ _
  rw [beq_iff_eq]
  constructor
  · intro h
    have : ((tl x).drop i)[0]? = some s := by
      have e := congrArg (·[0]?) h
      simpa [List.getElem?_take] using e
    simpa using this
  · intro h
    obtain ⟨hi, e⟩ := List.getElem?_eq_some_iff.mp h
    rw [List.drop_eq_getElem_cons hi, e]
    rfl
theorem count_none {s : Nat} {l : List Nat} (h : ∀ i : Nat, l[i]? ≠ some s) : l.count s = 0 := by
  refine List.count_eq_zero.mpr fun hm => ?_
  obtain ⟨i, hi, e⟩ := List.mem_iff_getElem.mp hm
  exact h i (by rw [List.getElem?_eq_getElem hi, e])
theorem chain_count {x y : Str} {s : Nat} (hy : tl y = [s]) : ∀ (cuts : List Nat) (a f : Nat), ChainG x y x.length a cuts f → (∀ k, f ≤ k → ¬ At x y x.length k) → cuts.length = ((tl x).drop a).count s
  | [], a, f, h, hn => by
    have e : f = a := h
    subst e
    rw [count_none]
    · rfl
    · intro i hi
      rw [List.getElem?_drop] at hi
      exact hn (f + i) (by omega) ((at_sign hy _).mpr hi)
  | c :: r, a, f, h, hn => by
    obtain ⟨h1, h2, h3, h4⟩ := h
    have hl : y.length = 1 := by rw [len_tl, hy]; rfl
    rw [hl] at h4
    have ih := chain_count hy r (c + 1) f h4 hn
    have hc := (at_sign hy c).mp h2
    obtain ⟨hi, e⟩ := List.getElem?_eq_some_iff.mp hc
    have hsplit : (tl x).drop a = ((tl x).drop a).take (c - a) ++ (tl x).drop c := by
      have q := (List.take_append_drop (c - a) ((tl x).drop a)).symm
      rw [List.drop_drop] at q
      rw [show a + (c - a) = c by omega] at q
      exact q
    rw [hsplit, List.count_append, List.drop_eq_getElem_cons hi, e, List.count_cons_self, ← ih, count_none]
    · rw [List.length_cons, Nat.zero_add]
    · intro i hi2
      by_cases hlt : i < c - a
      · rw [List.getElem?_take_of_lt hlt, List.getElem?_drop] at hi2
        exact h3 (a + i) (by omega) (by omega) ((at_sign hy _).mpr hi2)
      · rw [List.getElem?_eq_none (by rw [List.length_take]; omega)] at hi2
        cases hi2
theorem count_sign {x y : Str} {s : Nat} (hy : tl y = [s]) : Txt.count x y = ((tl x).count s : Nat) := by
  have h1 : 1 ≤ y.length := by rw [len_tl, hy]; exact Nat.le_refl _
  obtain ⟨f, g, hn⟩ := occ_tight x y h1
  have := chain_count hy _ 0 f g hn
  rw [List.drop_zero] at this
  unfold Txt.count
  rw [this]
theorem count_pure : ∀ {l : List Nat}, Pure l → l.count 48 + l.count 49 = l.length
  | [], _ => rfl
  | c :: r, h => by
    have ih := count_pure (l := r) fun d hd => h d (List.mem_cons_of_mem _ hd)
    rcases h c List.mem_cons_self with e | e <;> subst e <;> simp [List.count_cons] <;> omega

/-! ### runs of 0s -/
def runL : Nat → List Nat → List Nat
  | k, [] => [k]
  | k, c :: r => if c = 49 then k :: runL 0 r else runL (k + 1) r
theorem spl_len : ∀ (l acc : List Nat), (spl [49] 0 acc l).map List.length = runL acc.length l
  | [], acc => by rw [spl_nil]; rfl
  | c :: r, acc => by
    by_cases h : c = 49
    · subst h
      rw [spl_hit (by show ((49 :: r).take 1 == [49]) = true; rfl), List.map_cons, show ([49] : List Nat).length - 1 = 0 from rfl, spl_len r []]
      show _ = if 49 = 49 then _ else _
      rw [if_pos rfl]
      rfl
    · have hm : pre [49] (c :: r) = false := pre_of_head [] r h
      rw [spl_miss hm, spl_len r (acc ++ [c])]
      show _ = if c = 49 then _ else _
      rw [if_neg h, List.length_append]
      rfl
theorem runL_ne (l : List Nat) : ∀ k, runL k l ≠ [] := by
  induction l with
  | nil => intro k; simp [runL]
  | cons c r ih =>
    intro k
    unfold runL
    split
    · simp
    · exact ih _
theorem runL_len (l : List Nat) : ∀ k, (runL k l).length ≤ l.length + 1 := by
  induction l with
  | nil => intro k; simp [runL]
  | cons c r ih =>
    intro k
    unfold runL
    split
    · rw [List.length_cons, List.length_cons]
      have := ih 0
      omega
    · have := ih (k + 1)
      rw [List.length_cons]
      omega
theorem runL_le (l : List Nat) : ∀ (k n : Nat), n ∈ runL k l → n ≤ k + l.length := by
  induction l with
  | nil =>
    intro k n h
    have : n = k := by simpa [runL] using h
    rw [this]
    exact Nat.le_add_right _ _
  | cons c r ih =>
    intro k n h
    unfold runL at h
    split at h
    · rcases List.mem_cons.mp h with z | z
      · rw [z]
        exact Nat.le_add_right _ _
      · have := ih 0 n z
        rw [List.length_cons]
        omega
    · have := ih (k + 1) n h
      rw [List.length_cons]
      omega
/-- the lengths of split's parts -/
theorem split_len {x y : Str} (hy : tl y = [49]) : (Txt.split x y).map (fun z => z.length) = runL 0 (tl x) := by
  have hk : ¬ Builtin.Str.strKind x < Builtin.Str.strKind y := kind_ok (by
    have e : y.cps = #[49] := Array.toList_inj.mp hy
    rw [e]
    simp)
  have h := split_spl x y (by rw [hy]; simp) hk
  have h2 := congrArg (List.map List.length) h
  rw [hy, spl_len] at h2
  have h3 : List.map List.length (List.map tl (Txt.split x y)) = runL 0 (tl x) := h2
  rw [← h3, List.map_map]
  refine List.map_congr_left fun z _ => ?_
  exact len_tl z
/-- the law's gaps: i the place, the last 1's place -/
def gapL : Nat → Option Nat → List Nat → List Int
  | _, _, [] => []
  | i, last, c :: r => if c = 49 then (match last with | some j => [(i : Int) - j - 1] | none => []) ++ gapL (i + 1) (some i) r else gapL (i + 1) last r
theorem gap_some : ∀ (l : List Nat) (i j k : Nat), i = j + 1 + k → gapL i (some j) l = (runL k l).dropLast.map (fun (n : Nat) => (n : Int))
  | [], i, j, k, h => rfl
  | c :: r, i, j, k, h => by
    unfold gapL runL
    by_cases e : c = 49
    · rw [if_pos e, if_pos e, gap_some r (i + 1) i 0 (by omega), List.dropLast_cons_of_ne_nil (runL_ne _ _), List.map_cons]
      show [(i : Int) - j - 1] ++ _ = _
      rw [show (i : Int) - j - 1 = (k : Int) by omega]
      rfl
    · rw [if_neg e, if_neg e]
      exact gap_some r (i + 1) j (k + 1) (by omega)
theorem gap_none : ∀ (l : List Nat) (i k : Nat), gapL i none l = ((runL k l).drop 1).dropLast.map (fun (n : Nat) => (n : Int))
  | [], i, k => rfl
  | c :: r, i, k => by
    unfold gapL runL
    by_cases e : c = 49
    · rw [if_pos e, if_pos e, gap_some r (i + 1) i 0 (by omega)]
      rfl
    · rw [if_neg e, if_neg e]
      exact gap_none r (i + 1) (k + 1)
/-- the law's idle: (most, here) led along -/
def idleL : Int → Int → List Nat → Int
  | m, _, [] => m
  | m, h, c :: r => idleL (max m (if c = 48 then h + 1 else 0)) (if c = 48 then h + 1 else 0) r
/-- the greatest of a list of at least one -/
def IsMax (m : Int) (l : List Int) : Prop := m ∈ l ∧ ∀ x ∈ l, x ≤ m
theorem IsMax.eq {m n : Int} {l : List Int} (a : IsMax m l) (b : IsMax n l) : m = n := Int.le_antisymm (b.2 _ a.1) (a.2 _ b.1)
theorem idle_max : ∀ (l : List Nat), Pure l → ∀ (k : Nat) (m : Int), (k : Int) ≤ m → ∃ t, IsMax t ((runL k l).map (fun (n : Nat) => (n : Int))) ∧ idleL m k l = max m t
  | [], _, k, m, h => ⟨k, ⟨by simp [runL], by simp [runL]⟩, by simp [idleL]; omega⟩
  | c :: r, hp, k, m, h => by
    have hr : Pure r := fun d hd => hp d (List.mem_cons_of_mem _ hd)
    unfold idleL runL
    rcases hp c List.mem_cons_self with e | e
    · rw [if_pos e, if_neg (by omega)]
      obtain ⟨t, ht, q⟩ := idle_max r hr (k + 1) (max m ((k : Int) + 1)) (by push_cast; omega)
      have hk : (k : Int) + 1 ≤ t := by
        obtain ⟨x, hx⟩ : ∃ x, x ∈ runL (k + 1) r ∧ k + 1 ≤ x := by
          have gen : ∀ (l : List Nat) (k : Nat), ∃ x, x ∈ runL k l ∧ k ≤ x := by
            intro l
            induction l with
            | nil => intro k; exact ⟨k, by simp [runL], Nat.le_refl _⟩
            | cons c r ih =>
              intro k
              unfold runL
              split
              · exact ⟨k, by simp, Nat.le_refl _⟩
              · obtain ⟨x, h1, h2⟩ := ih (k + 1)
                exact ⟨x, h1, by omega⟩
          exact gen r (k + 1)
        have := ht.2 (x : Int) (List.mem_map.mpr ⟨x, hx.1, rfl⟩)
        omega
      refine ⟨t, ht, ?_⟩
      have q' : idleL (max m ((k : Int) + 1)) ((k : Int) + 1) r = max (max m ((k : Int) + 1)) t := by
        have := q
        push_cast at this
        exact this
      rw [q']
      omega
    · rw [if_pos e, if_neg (by omega)]
      obtain ⟨t, ht, q⟩ := idle_max r hr 0 (max m 0) (by omega)
      refine ⟨max (k : Int) t, ⟨?_, fun x hx => ?_⟩, ?_⟩
      · rw [List.map_cons]
        by_cases hkt : (k : Int) ≤ t
        · rw [Int.max_eq_right hkt]
          exact List.mem_cons_of_mem _ ht.1
        · rw [Int.max_eq_left (by omega)]
          exact List.mem_cons_self
      · rw [List.map_cons] at hx
        rcases List.mem_cons.mp hx with z | z
        · omega
        · have := ht.2 x z
          omega
      · have q' : idleL (max m 0) 0 r = max (max m 0) t := by
          have := q
          push_cast at this
          exact this
        rw [q']
        omega
theorem idle_is {l : List Nat} (hp : Pure l) {t : Int} (ht : IsMax t ((runL 0 l).map (fun (n : Nat) => (n : Int)))) : idleL 0 0 l = t := by
  obtain ⟨u, hu, q⟩ := idle_max l hp 0 0 (Int.le_refl _)
  have e := hu.eq ht
  subst e
  have h0 : 0 ≤ u := by
    obtain ⟨n, _, e⟩ := List.mem_map.mp hu.1
    omega
  have q' : idleL 0 0 l = max 0 u := q
  rw [q']
  omega

/-! ### sums along a row -/
/-- the sums ahead of each place and at the end, from h on -/
def sumL : Int → List Nat → List Int
  | h, [] => [h]
  | h, c :: r => h :: sumL (if c = 49 then h + 1 else h - 1) r
def step (h : Int) (c : Nat) : Int := if c = 49 then h + 1 else h - 1
def endS (l : List Nat) : Int := l.foldl step 0
/-- the highest, the lowest of them, led along -/
def hiS (l : List Nat) : Int × Int × Int := l.foldl (fun st c => let h := step st.1 c; (h, (if h > st.2.1 then h else st.2.1), (if h < st.2.2 then h else st.2.2))) (0, 0, 0)
theorem hiS_snoc (l : List Nat) (c : Nat) : hiS (l ++ [c]) = (step (hiS l).1 c, (if step (hiS l).1 c > (hiS l).2.1 then step (hiS l).1 c else (hiS l).2.1), (if step (hiS l).1 c < (hiS l).2.2 then step (hiS l).1 c else (hiS l).2.2)) := by
  unfold hiS
  rw [List.foldl_append]
  rfl
theorem take_snoc {l : List Nat} {i c : Nat} (h : l[i]? = some c) : l.take (i + 1) = l.take i ++ [c] := by
  rw [List.take_add_one, h]
  rfl
/-- all sums of the beginnings -/
def sums (l : List Nat) : List Int := (List.range (l.length + 1)).map fun i => (hiS (l.take i)).1
theorem sums_len (l : List Nat) : (sums l).length = l.length + 1 := by simp [sums]
theorem hiS_top (l : List Nat) : IsMax (hiS l).2.1 (sums l) ∧ ((hiS l).2.2 ∈ sums l ∧ ∀ x ∈ sums l, (hiS l).2.2 ≤ x) := by
  have gen : ∀ n, n ≤ l.length → IsMax (hiS (l.take n)).2.1 ((List.range (n + 1)).map fun i => (hiS (l.take i)).1) ∧
      ((hiS (l.take n)).2.2 ∈ ((List.range (n + 1)).map fun i => (hiS (l.take i)).1) ∧ ∀ x ∈ ((List.range (n + 1)).map fun i => (hiS (l.take i)).1), (hiS (l.take n)).2.2 ≤ x) := by
    intro n
    induction n with
    | zero =>
      intro _
      simp [IsMax, hiS]
    | succ n ih =>
      intro hn
      obtain ⟨⟨a1, a2⟩, b1, b2⟩ := ih (by omega)
      have hg : l[n]? = some l[n] := List.getElem?_eq_getElem (by omega)
      have e : (List.range (n + 1 + 1)).map (fun i => (hiS (l.take i)).1) = ((List.range (n + 1)).map fun i => (hiS (l.take i)).1) ++ [(hiS (l.take (n + 1))).1] := by
        rw [List.range_succ, List.map_append]
        rfl
      have e2 := hiS_snoc (l.take n) l[n]
      rw [← take_snoc hg] at e2
      have f1 : (hiS (l.take (n + 1))).1 = step (hiS (l.take n)).1 l[n] := by rw [e2]
      have f2 : (hiS (l.take (n + 1))).2.1 = if step (hiS (l.take n)).1 l[n] > (hiS (l.take n)).2.1 then step (hiS (l.take n)).1 l[n] else (hiS (l.take n)).2.1 := by rw [e2]
      have f3 : (hiS (l.take (n + 1))).2.2 = if step (hiS (l.take n)).1 l[n] < (hiS (l.take n)).2.2 then step (hiS (l.take n)).1 l[n] else (hiS (l.take n)).2.2 := by rw [e2]
      rw [e, f2, f3]
      have f1' := f1
      generalize hh : step (hiS (l.take n)).1 l[n] = h at *
      rw [f1']
      refine ⟨⟨?_, fun x hx => ?_⟩, ?_, fun x hx => ?_⟩
      · split
        · exact List.mem_append_right _ (by simp)
        · exact List.mem_append_left _ a1
      · rcases List.mem_append.mp hx with z | z
        · have := a2 x z
          split <;> omega
        · obtain rfl : x = h := by simpa using z
          split <;> omega
      · split
        · exact List.mem_append_right _ (by simp)
        · exact List.mem_append_left _ b1
      · rcases List.mem_append.mp hx with z | z
        · have := b2 x z
          split <;> omega
        · obtain rfl : x = h := by simpa using z
          split <;> omega
  have := gen l.length (Nat.le_refl _)
  rw [List.take_length] at this
  exact this
/-- what is at least as far as all two sums are apart, and is so far itself, is the swing -/
theorem swing_is {l : List Nat} {m : Int} (h1 : ∀ a ∈ sums l, ∀ b ∈ sums l, b - a ≤ m) (h2 : ∃ a ∈ sums l, ∃ b ∈ sums l, m = b - a ∨ m = a - b) : m = (hiS l).2.1 - (hiS l).2.2 := by
  obtain ⟨⟨a1, a2⟩, b1, b2⟩ := hiS_top l
  have g1 := h1 _ b1 _ a1
  obtain ⟨a, ha, b, hb, e⟩ := h2
  have c1 := a2 a ha
  have c2 := a2 b hb
  have c3 := b2 a ha
  have c4 := b2 b hb
  rcases e with e | e <;> omega
end Pw

set_option Elab.async false
set_option linter.all false
set_option maxRecDepth 100000
set_option maxHeartbeats 4000000
namespace Pw
open PySem PySem.Spec PyProof.Rows
/-- how many unlike texts -/
def dist : List Str → Nat
  | [] => 0
  | x :: r => if r.any (· == x) = true then dist r else dist r + 1
def cntD (l : List Str) : Nat := dist l.reverse
theorem cntD_snoc (l : List Str) (x : Str) : cntD (l ++ [x]) = if l.any (· == x) = true then cntD l else cntD l + 1 := by
  unfold cntD
  rw [List.reverse_append]
  show (if l.reverse.any (· == x) = true then dist l.reverse else dist l.reverse + 1) = _
  rw [List.any_reverse]
theorem dist_cons (x : Str) (r : List Str) : dist (x :: r) = if r.any (· == x) = true then dist r else dist r + 1 := rfl
theorem dist_le : ∀ l : List Str, dist l ≤ l.length
  | [] => Nat.le_refl _
  | x :: r => by
    have := dist_le r
    unfold dist
    split
    · rw [List.length_cons]
      omega
    · rw [List.length_cons]
      omega
theorem cntD_le (l : List Str) : cntD l ≤ l.length := by
  unfold cntD
  have := dist_le l.reverse
  rw [List.length_reverse] at this
  exact this
theorem any_mem {l : List Str} {x : Str} : l.any (· == x) = true ↔ x ∈ l := by
  rw [List.any_eq_true]
  constructor
  · rintro ⟨y, h1, h2⟩
    rw [← beq_iff_eq.mp h2]
    exact h1
  · intro h
    exact ⟨x, h, beq_self_eq_true x⟩
theorem dist_nodup : ∀ l : List Str, dist l = l.length ↔ l.Nodup
  | [] => by simp [dist]
  | x :: r => by
    have ih := dist_nodup r
    have hle := dist_le r
    rw [List.nodup_cons, ← ih, List.length_cons, dist_cons]
    by_cases h : r.any (· == x) = true
    · rw [if_pos h]
      constructor
      · intro e
        omega
      · rintro ⟨h1, _⟩
        exact absurd (any_mem.mp h) h1
    · rw [if_neg h]
      constructor
      · intro e
        exact ⟨fun z => h (any_mem.mpr z), by omega⟩
      · rintro ⟨_, h2⟩
        omega
theorem cntD_nodup (l : List Str) : cntD l = l.length ↔ l.Nodup := by
  unfold cntD
  have := dist_nodup l.reverse
  rw [List.length_reverse] at this
  rw [this]
  unfold List.Nodup
  rw [List.pairwise_reverse]
  exact ⟨fun h => h.imp fun z => Ne.symm z, fun h => h.imp fun z => Ne.symm z⟩
section
variable {prog : Program} {w : World} {A : Around} {R : Result → Shared → Prop} {I : Addr} {fp wr : List Addr} {G : Array GenState → Array GenState → Prop} {n : Nat} {P : Nat → Value → Prop} {St : Nat → Shared → Prop}
theorem fill_loop (W : WalksS prog w A.in1 I fp wr G n P St) (S : Addr) (hSf : S ∉ fp) (xs : List Str) (hsz : xs.length = n) (hn : n ≤ 60) (hval : ∀ i v, P i v → ∃ t, v = .str (xs.getD i Str.empty) t) :
    ∀ (k i : Nat) (s : Shared), n - i = k → i ≤ n → St i s → s.heap.SetOf (PySem.strKind prog w) S (fun y => (xs.take i).any (· == y)) (cntD (xs.take i)) →
      (∀ s', Moved (S :: wr) G s s' → s'.heap.SetOf (PySem.strKind prog w) S (fun y => (xs.take n).any (· == y)) (cntD (xs.take n)) → R (.ok (.ret .none)) s') →
      codeAny (model prog w) A (.builtin "set.update.loop" ⟨[.ref S, .ref I], []⟩) R s := by
  have nSw : S ∉ wr := fun h => hSf (W.sub _ h)
  have inW : ∀ b ∈ wr, b ∈ S :: wr := fun b hb => List.mem_cons_of_mem _ hb
  intro k
  induction k with
  | zero =>
    intro i s hk hi hst hS hR
    obtain rfl : i = n := by omega
    refine codeAny_builtin PyProof.Rows.F.entry_set_update_loop ?_
    rw [Around.under_plainId PyProof.Rows.F.plain_set_update_loop _]
    show wpAny _ A.in1 (pyNext (.ref I) >>= _) _ _ s
    refine wpAny_bind (W.done s _ _ hst fun s' hm => ?_)
    show wpAny _ A.in1 (ret Value.none) _ _ s'
    exact wpAny_pure (hR s' (hm.mono inW) (let ⟨o, es, ep, t, ho, rest⟩ := hS; ⟨o, es, ep, t, hm.heap S _ nSw ho, rest⟩))
  | succ k ih =>
    intro i s hk hi hst hS hR
    have hlt : i < n := by omega
    have hix : i < xs.length := by omega
    refine codeAny_builtin PyProof.Rows.F.entry_set_update_loop ?_
    rw [Around.under_plainId PyProof.Rows.F.plain_set_update_loop _]
    show wpAny _ A.in1 (pyNext (.ref I) >>= _) _ _ s
    refine wpAny_bind (W.item i s _ _ hlt hst fun v s' hP hst' hm => ?_)
    obtain ⟨t, rfl⟩ := hval i v hP
    have eget : xs.getD i Str.empty = xs[i] := by simp [List.getD, hix]
    rw [eget]
    have hS' : s'.heap.SetOf (PySem.strKind prog w) S (fun y => (xs.take i).any (· == y)) (cntD (xs.take i)) := let ⟨o, es, ep, tb, ho, rest⟩ := hS; ⟨o, es, ep, tb, hm.heap S _ nSw ho, rest⟩
    have hroom : cntD (xs.take i) + 1 < scanBound := by
      have := cntD_le (xs.take i)
      rw [List.length_take] at this
      unfold scanBound
      omega
    show wpAny _ A.in1 (holding [Value.str xs[i] t] (setAdd S (.str xs[i] t)) >>= _) _ _ s'
    refine wpAny_bind (wpAny_holding ?_)
    unfold setAdd
    refine wpAny_holding ?_
    refine wpAny_bind ((PySem.strKind prog w).pyHash (k := xs[i]) (strKind_is _ _ _ _) ?_)
    refine wpAny_setAddHashed_of (knd := PySem.strKind prog w) (s := { s' with toks := s'.toks + 1 }) (strKind_is _ _ _ _) rfl hS' hroom fun h' hsb hS2 => ?_
    have etake : xs.take (i + 1) = xs.take i ++ [xs[i]] := by
      rw [List.take_add_one, List.getElem?_eq_getElem hix]
      rfl
    have hSi : h'.SetOf (PySem.strKind prog w) S (fun y => (xs.take (i + 1)).any (· == y)) (cntD (xs.take (i + 1))) := by
      refine SetOf_congr hS2 (fun y => ?_) ?_
      · rw [etake, List.any_append]
        congr 1
        by_cases e : y = xs[i]
        · subst e
          simp
        · have hb : (xs[i] == y) = false := by simpa [beq_iff_eq] using (fun z : xs[i] = y => e z.symm)
          simp [hb, e]
      · rw [etake, cntD_snoc]
    refine wpAny_pure ⟨plainId_quiet PyProof.Rows.F.plain_set_update_loop _, ih (i + 1) _ (by omega) hlt (W.frame _ s' _ _ hst' (Nat.le_succ _) fun b hb o e => ?_) hSi fun s'' hm'' hS'' => ?_⟩
    · rw [hsb.2 b (fun z : b = S => hSf (by rw [← z]; exact hb))]
      exact e
    · refine hR s'' (Moved.trans W.gtrans ((hm.mono inW).then_heap (Nat.le_succ _) fun b o hb e => ?_) hm'') hS''
      rw [hsb.2 b (fun z : b = S => hb (by rw [z]; exact List.mem_cons_self))]
      exact e
end
/-- the object of an empty set -/
abbrev set0 (led : Bool) : Obj := { cls := .type "set", dict := none, data := .set #[] 0 (.fresh 0 0 led) }
section
variable {prog : Program} {w : World} {A : Around} {E : Value → Shared → Prop} {s : Shared}
/-- set(x), once its __init__ is walked -/
theorem set_by {x : Addr} {xs : List Str} {n : Nat} {Q : Value → Shared → Prop}
    (hinit : ∀ (led : Bool) (R : Fin → Shared → Prop) (E' : Value → Shared → Prop), (∀ (h' : Heap) (tk : Nat), h'.SetOf (PySem.strKind prog w) s.heap.objs.size (fun y => (xs.take n).any (· == y)) (cntD (xs.take n)) → (∀ b o, b < s.heap.objs.size → s.heap.get? b = some o → h'.get? b = some o) → R (.done (.ret .none)) { s with heap := h', toks := tk }) →
      wpAny (model prog w) A.in1.in1 (Builtin.«set.__init__» ⟨[.ref s.heap.objs.size, .ref x], []⟩) R E' { s with heap := s.heap.push (set0 led) })
    (h : ∀ (h' : Heap) (tk : Nat), h'.SetOf (PySem.strKind prog w) s.heap.objs.size (fun y => (xs.take n).any (· == y)) (cntD (xs.take n)) → (∀ b o, b < s.heap.objs.size → s.heap.get? b = some o → h'.get? b = some o) → Q (.ref s.heap.objs.size) { s with heap := h', toks := tk }) :
    wpAny (model prog w) A (call (.type "set") [.ref x]) Q E s := by
  obtain ⟨c, tl, hmro⟩ := PySem.F.called_set.mro
  have hmade := PySem.F.called_set.made
  have hsub := PySem.F.called_set.sub
  refine wpAny_call (codeAny_of_tree ?_)
  show wpAny _ _ (callAny (.type "set") _) _ _ _
  refine wpAny_pure ⟨Code.quiet_builtin _ (by decide +kernel), codeAny_builtin PySem.F.entry_type_call ?_⟩
  rw [Around.under_plain (weight_type_call_type "set" [.ref x] []) rfl]
  have h1 := PySem.F.called_set.notType
  have h2 := PySem.F.called_set.canCreate
  have hct := PySem.F.typeCall_set_1 (.ref x)
  repeat (any_goals (first | assumption | wp_step))
  refine codeAny_mono (code_set_new_1 (.ref x) (E := E) (Q₁ := fun obj s₁ => ∃ led : Bool, obj = .ref s.heap.objs.size ∧ s₁ = { s with heap := s.heap.push (set0 led) }) fun led => ⟨led, rfl, rfl⟩) fun r s₁ hr => ?_
  cases r with
  | error e => exact hr
  | ok fl =>
    cases fl with
    | ret obj =>
      obtain ⟨led, rfl, rfl⟩ := hr
      have hS : (s.heap.push (set0 led)).get? s.heap.objs.size = some (set0 led) := Heap.get?_push_size _ rfl
      have hT : Shared.TypeIs { s with heap := s.heap.push (set0 led) } (.ref s.heap.objs.size) "set" := ⟨_, hS, rfl⟩
      have hli := PySem.F.called_set.init.lookup
      have hbi := PySem.F.called_set.init.bind (.ref s.heap.objs.size)
      repeat (any_goals (first | assumption | wp_step))
      refine codeAny_mono (codeAny_call_builtin (R := wants (fun r s₂ => r = .none ∧ ∃ h' tk, s₂ = { s with heap := h', toks := tk } ∧ h'.SetOf (PySem.strKind prog w) s.heap.objs.size (fun y => (xs.take n).any (· == y)) (cntD (xs.take n)) ∧
          (∀ b o, b < s.heap.objs.size → s.heap.get? b = some o → h'.get? b = some o)) E) PySem.F.called_set.init.plain PySem.F.entry_set_init (check_set_init_1 hT ?_)) fun r₂ s₂ hr₂ => ?_
      · exact hinit led _ _ fun h' tk a b => ⟨rfl, h', tk, rfl, a, b⟩
      · cases r₂ with
        | error e => exact hr₂
        | ok fl₂ =>
          cases fl₂ with
          | ret r =>
            obtain ⟨rfl, h', tk, rfl, hS', hk'⟩ := hr₂
            repeat (any_goals (first | assumption | wp_step))
            exact h _ _ hS' hk'
          | _ => exact hr₂.elim
    | _ => exact hr.elim
theorem set_list {x : Addr} {items : Array Value} {xs : List Str} {Q : Value → Shared → Prop} (hh : A.handled = none) (hl : s.heap.IsList x items) (hi : PyProof.Rows.StrsAre items.toList xs) (hn : xs.length ≤ 60)
    (h : ∀ (h' : Heap) (tk : Nat), h'.SetOf (PySem.strKind prog w) s.heap.objs.size (fun y => (xs.take items.size).any (· == y)) (cntD (xs.take items.size)) → (∀ b o, b < s.heap.objs.size → s.heap.get? b = some o → h'.get? b = some o) → Q (.ref s.heap.objs.size) { s with heap := h', toks := tk }) :
    wpAny (model prog w) A (call (.type "set") [.ref x]) Q E s := by
  refine set_by (n := items.size) (fun led R E' hR => ?_) h
  obtain ⟨⟨ocls, odict, odata, oslots⟩, hol, hcl, nl, hdl⟩ := hl
  simp only at hcl hdl
  subst hcl
  subst hdl
  have hS : (s.heap.push (set0 led)).get? s.heap.objs.size = some (set0 led) := Heap.get?_push_size _ rfl
  have hol' : (s.heap.push (set0 led)).get? x = some { cls := .type "list", dict := odict, data := .seq items nl, slots := oslots } := Heap.get?_push_of_some _ hol
  have hsls := PySem.F.sub_list_set
  have hslf := PySem.F.sub_list_frozenset
  have hne : (Value.type "list" == Value.type "dict") = false := by decide
  have hl1 : (s.heap.push (set0 led)).IsList x items := ⟨_, hol', rfl, nl, rfl⟩
  unfold Builtin.«set.__init__» noKeywords Builtin.Frozenset.updateFrom
  generalize hPI : pyIter = PI
  wp_walk
  subst hPI
  refine wpAny_pyIter_list hl1 (wpAny_bind (wpAny_runValue ?_))
  have hlS : x < s.heap.objs.size := Heap.lt_size hol
  have hh3 : A.in1.in1.in1.handled = none := by simp [hh]
  have hneI : x ≠ (s.heap.push (set0 led)).objs.size := by
    rw [Heap.size_push]
    exact Nat.ne_of_lt (Nat.lt_succ_of_lt hlS)
  have hSf : s.heap.objs.size ∉ [(s.heap.push (set0 led)).objs.size, x] := by
    rw [Heap.size_push]
    simp only [List.mem_cons, List.mem_singleton, List.not_mem_nil, or_false, not_or]
    exact ⟨Nat.ne_of_lt (Nat.lt_succ_self _), Nat.ne_of_gt hlS⟩
  have hsz : xs.length = items.size := by rw [← StrsAre.len_eq hi, Array.length_toList]
  have hval : ∀ (i : Nat) (v : Value), items[i]? = some v → ∃ t, v = .str (xs.getD i Str.empty) t := fun i v hv => SS.strs_at hi i v (by rw [Array.getElem?_toList]; exact hv)
  refine fill_loop ((Walks.list hh3 _ x hneI items).toS) s.heap.objs.size hSf xs hsz (by rw [← hsz]; exact hn) hval (items.size - 0) 0 _ (by omega) (Nat.zero_le _) ⟨⟨_, Heap.get?_push_size _ rfl, rfl, rfl⟩, (hl1.push _)⟩ ?hS0 ?hR
  case hS0 =>
    have hget : ((s.heap.push (set0 led)).push { cls := .type "list_iterator", data := .fields #[.ref x, .int 0 0] }).get? s.heap.objs.size = some (set0 led) := Heap.get?_push_of_some _ hS
    exact PyProof.Rows.SetOf_congr ((PyProof.Rows.setObjOf_fresh (knd := PySem.strKind prog w) led).setOf hget (by unfold scanBound; omega)) (fun _ => rfl) rfl
  case hR =>
    intro s' hm hS'
    obtain ⟨h', g', d', tk', os'⟩ := s'
    obtain rfl : g' = s.gens := hm.gens
    obtain rfl : d' = s.drawn := hm.drawn
    obtain rfl : os' = s.os := hm.os
    show wpAny _ _ _ _ _ _
    refine wpAny_pure ?_
    show wpAny _ _ (ret Value.none) _ _ _
    refine wpAny_pure (hR h' tk' hS' fun b o hb e => ?_)
    have hb1 : b ≠ s.heap.objs.size := Nat.ne_of_lt hb
    have hb2 : b ≠ (s.heap.push (set0 led)).objs.size := by
      rw [Heap.size_push]
      exact Nat.ne_of_lt (Nat.lt_succ_of_lt hb)
    exact hm.heap b o (by simp only [List.mem_cons, List.mem_singleton, List.not_mem_nil, or_false, not_or]; exact ⟨hb1, hb2⟩) (Heap.get?_push_of_some _ (Heap.get?_push_of_some _ e))
theorem set_tuple {x : Addr} {items : Array Value} {xs : List Str} {Q : Value → Shared → Prop} (hh : A.handled = none) (hl : s.heap.IsTuple x items) (hi : PyProof.Rows.StrsAre items.toList xs) (hn : xs.length ≤ 60)
    (h : ∀ (h' : Heap) (tk : Nat), h'.SetOf (PySem.strKind prog w) s.heap.objs.size (fun y => (xs.take items.size).any (· == y)) (cntD (xs.take items.size)) → (∀ b o, b < s.heap.objs.size → s.heap.get? b = some o → h'.get? b = some o) → Q (.ref s.heap.objs.size) { s with heap := h', toks := tk }) :
    wpAny (model prog w) A (call (.type "set") [.ref x]) Q E s := by
  refine set_by (n := items.size) (fun led R E' hR => ?_) h
  obtain ⟨⟨ocls, odict, odata, oslots⟩, hol, hcl, nl, hdl⟩ := hl
  simp only at hcl hdl
  subst hcl
  subst hdl
  have hS : (s.heap.push (set0 led)).get? s.heap.objs.size = some (set0 led) := Heap.get?_push_size _ rfl
  have hol' : (s.heap.push (set0 led)).get? x = some { cls := .type "tuple", dict := odict, data := .seq items nl, slots := oslots } := Heap.get?_push_of_some _ hol
  have hsls := PySem.F.sub_tuple_set
  have hslf := PySem.F.sub_tuple_frozenset
  have hne : (Value.type "tuple" == Value.type "dict") = false := by decide
  have hl1 : (s.heap.push (set0 led)).IsTuple x items := ⟨_, hol', rfl, nl, rfl⟩
  unfold Builtin.«set.__init__» noKeywords Builtin.Frozenset.updateFrom
  generalize hPI : pyIter = PI
  wp_walk
  subst hPI
  refine wpAny_pyIter_tuple hl1 (wpAny_bind (wpAny_runValue ?_))
  have hlS : x < s.heap.objs.size := Heap.lt_size hol
  have hh3 : A.in1.in1.in1.handled = none := by simp [hh]
  have hneI : x ≠ (s.heap.push (set0 led)).objs.size := by
    rw [Heap.size_push]
    exact Nat.ne_of_lt (Nat.lt_succ_of_lt hlS)
  have hSf : s.heap.objs.size ∉ [(s.heap.push (set0 led)).objs.size, x] := by
    rw [Heap.size_push]
    simp only [List.mem_cons, List.mem_singleton, List.not_mem_nil, or_false, not_or]
    exact ⟨Nat.ne_of_lt (Nat.lt_succ_self _), Nat.ne_of_gt hlS⟩
  have hsz : xs.length = items.size := by rw [← StrsAre.len_eq hi, Array.length_toList]
  have hval : ∀ (i : Nat) (v : Value), items[i]? = some v → ∃ t, v = .str (xs.getD i Str.empty) t := fun i v hv => SS.strs_at hi i v (by rw [Array.getElem?_toList]; exact hv)
  refine fill_loop ((Walks.tuple hh3 _ x hneI items).toS) s.heap.objs.size hSf xs hsz (by rw [← hsz]; exact hn) hval (items.size - 0) 0 _ (by omega) (Nat.zero_le _) ⟨⟨_, Heap.get?_push_size _ rfl, rfl, rfl⟩, (hl1.push _)⟩ ?hS0 ?hR
  case hS0 =>
    have hget : ((s.heap.push (set0 led)).push { cls := .type "tuple_iterator", data := .fields #[.ref x, .int 0 0] }).get? s.heap.objs.size = some (set0 led) := Heap.get?_push_of_some _ hS
    exact PyProof.Rows.SetOf_congr ((PyProof.Rows.setObjOf_fresh (knd := PySem.strKind prog w) led).setOf hget (by unfold scanBound; omega)) (fun _ => rfl) rfl
  case hR =>
    intro s' hm hS'
    obtain ⟨h', g', d', tk', os'⟩ := s'
    obtain rfl : g' = s.gens := hm.gens
    obtain rfl : d' = s.drawn := hm.drawn
    obtain rfl : os' = s.os := hm.os
    show wpAny _ _ _ _ _ _
    refine wpAny_pure ?_
    show wpAny _ _ (ret Value.none) _ _ _
    refine wpAny_pure (hR h' tk' hS' fun b o hb e => ?_)
    have hb1 : b ≠ s.heap.objs.size := Nat.ne_of_lt hb
    have hb2 : b ≠ (s.heap.push (set0 led)).objs.size := by
      rw [Heap.size_push]
      exact Nat.ne_of_lt (Nat.lt_succ_of_lt hb)
    exact hm.heap b o (by simp only [List.mem_cons, List.mem_singleton, List.not_mem_nil, or_false, not_or]; exact ⟨hb1, hb2⟩) (Heap.get?_push_of_some _ (Heap.get?_push_of_some _ e))
end
open L2
/-- len(set(xs)), xs a list or tuple of texts -/
def tLenD (K : PySem.W.Frag) (ta : TE) : TE := fun σ H Q => ta σ H fun x H1 => ∃ l, ∃ xs : List Str, x = .ref l ∧ (SqL K H1 l (xs.map V.str) ∨ SqT K H1 l (xs.map V.str)) ∧ xs.length ≤ 60 ∧ Q (.int (cntD xs : Nat)) H1
theorem pe_lenD {X : Cx} {a : Expr} {ta : TE} {p p2 q pos : Pos} (hc : X.calm = true) (hg : Gl X "len") (hm : X.mg "len" = none) (hg2 : Gl X "set") (hm2 : X.mg "set" = none) (ha : PE X a ta)
    (na : starEach [a] X.env = (false, eval a X.env) :: starEach [] X.env := by rfl) : PE X (.Call (.Name "len" p) [.Call (.Name "set" p2) [a] [] q] [] pos) (tLenD X.K ta) := by
  refine ⟨fun pns s τ G Q I h => ?_⟩
  refine Call_ (ld_blt I hg hm boot_len (PyProof.Rows.callWith_builtin1 (PyProof.Rows.args_cons (Call_ (ld_blt I hg2 hm2 boot_set ?_)) rfl) rfl rfl))
  refine PyProof.Rows.callWith_type1 (PyProof.Rows.args_cons (thn (ha.run pns s τ G _ I h) fun v s1 ⟨x, H1, I1, r1, q1⟩ => PyProof.Rows.args_nil ?_) na) na rfl
  obtain ⟨l, xs, rfl, hq, h1, q1⟩ := q1
  cases r1
  have fin : ∀ (its : List Value), Vals (xs.map V.str) its → ∀ (h' : Heap) (tk : Nat), h'.SetOf (PySem.strKind X.prog X.w) s1.heap.objs.size (fun y => (xs.take its.toArray.size).any (· == y)) (cntD (xs.take its.toArray.size)) →
      (∀ b o, b < s1.heap.objs.size → s1.heap.get? b = some o → h'.get? b = some o) →
      wpAny (model X.prog X.w) X.A (spliced (backTo pos (starEach [] X.env))) (fun vs s₂ => wpAny (model X.prog X.w) X.A (call (.builtin "len") (Value.ref s1.heap.objs.size :: vs)) (EP X pns τ Q) X.xe s₂) X.xe { s1 with heap := h', toks := tk } := fun its r h' tk hS hk => by
    refine PyProof.Rows.args_nil ?_
    have hl : its.toArray.size = xs.length := by rw [List.size_toArray, ← r.length, List.length_map]
    rw [hl, List.take_length] at hS
    obtain ⟨o, es, ep, t, ho, hex, hd, _, _, _, hf, hn⟩ := hS
    have I2 : Inv X pns τ H1 { s1 with heap := h', toks := tk } := I1.kept fun b o e => hk b o (Heap.lt_size e) e
    have hle := cntD_le xs
    exact call_len_set ho hex hd hf (by rw [hn] <;> omega) ⟨.int (cntD xs : Nat), H1, I2.tok _, ⟨_, by rw [hn]⟩, q1⟩
  rcases hq with hq | hq
  · obtain ⟨its, r, pl, hz⟩ := I1.list hq
    exact set_list (I1.ok.hd hc) pl.isList (by simpa using strsAre_of r) h1 fun h' tk hS hk => fin its r h' tk hS hk
  · obtain ⟨its, r, pl, hz⟩ := I1.tuple hq
    exact set_tuple (I1.ok.hd hc) pl (by simpa using strsAre_of r) h1 fun h' tk hS hk => fin its r h' tk hS hk
end Pw

set_option Elab.async false
set_option linter.all false
set_option maxRecDepth 100000
set_option maxHeartbeats 2000000
namespace Pw
open PySem PySem.Spec PyProof.Rows
/-! texts in order, each list of them just once -/
theorem rising_pw : ∀ (p : Str) (l : List Str), risingS p l = true → (p :: l).Pairwise (fun a b => a.cps.toList ≤ b.cps.toList)
  | p, [], _ => List.pairwise_singleton _ _
  | p, x :: r, h => by
    have h2 : (!ltCps x.cps.toList p.cps.toList && risingS x r) = true := h
    rw [Bool.and_eq_true] at h2
    have ih := rising_pw x r h2.2
    have h3 : ¬ (x.cps.toList < p.cps.toList) := by
      have := h2.1
      rw [ltCps_eq] at this
      simpa using this
    have h4 : p.cps.toList ≤ x.cps.toList := h3
    refine List.pairwise_cons.mpr ⟨fun b hb => ?_, ih⟩
    rcases List.mem_cons.mp hb with rfl | hb
    · exact h4
    · exact List.le_trans h4 ((List.pairwise_cons.mp ih).1 b hb)
theorem sortedS_pw {l : List Str} (h : sortedS l = true) : l.Pairwise (fun a b => a.cps.toList ≤ b.cps.toList) := by
  cases l with
  | nil => exact List.Pairwise.nil
  | cons x r => exact rising_pw x r h
theorem str_eq {a b : Str} (h : a.cps.toList = b.cps.toList) : a = b := by
  cases a with
  | mk x =>
    cases b with
    | mk y =>
      have : x = y := Array.toList_inj.mp h
      rw [this]
theorem sortedS_one {a b : List Str} (p : a.Perm b) (ha : sortedS a = true) (hb : sortedS b = true) : a = b :=
  List.Perm.eq_of_pairwise (le := fun a b => a.cps.toList ≤ b.cps.toList) (fun x y _ _ h1 h2 => str_eq (List.le_antisymm h1 h2)) (sortedS_pw ha) (sortedS_pw hb) p
/-! sorted(tuple of texts) -/
section
variable {prog : Program} {w : World} {A : Around} {E : Value → Shared → Prop} {s : Shared}
theorem sorted_strsT {l : Addr} {vs : List Value} {ss : List Str} {Q : Value → Shared → Prop} (hl : IsTup s.heap l vs.toArray) (hS : StrsAre vs ss) (h64 : vs.length < 64)
    (h : ∀ (g : Heap) (out : Array Value) (ss' : List Str), (∀ b o, s.heap.get? b = some o → g.get? b = some o) → StrsAre out.toList ss' → ss'.Perm ss → sortedS ss' = true →
      Q (.ref g.objs.size) { s with heap := sortedHeap (g.push (seqObj "list" vs.toArray 0)) g.objs.size vs out }) :
    wpAny (model prog w) A (call (.builtin "sorted") [.ref l]) Q E s := by
  obtain ⟨o, ho, hc, n, hd⟩ := hl
  have hz : vs.toArray.size ≤ sizeLine := by
    rw [List.size_toArray, sizeLine_eq]
    omega
  refine Calls.call_function_entry kind_sorted plain_sorted entry_sorted (args_sorted1 _) ?_
  unfold Builtin.«sorted»
  refine wpAny_bind (m := checkCount "sorted" 1 1 _) (wpAny_pure (wpAny_bind (wpAny_collect_seq l (.inr rfl) ho hc hd (fun g hk => wpAny_bind (wpAny_newList ?_)) hz)))
  have hg : (g.push (seqObj "list" vs.toArray 0)).get? g.objs.size = some (seqObj "list" vs.toArray 0) := Heap.get?_push_size _ rfl
  refine wpAny_bind (wpAny_holding (wpAny_call_entry (s := { s with heap := g.push (seqObj "list" vs.toArray 0) }) slot_list_sort ⟨_, hg, rfl⟩ entry_list_sort
    (list_sort_treeK strKind_oneLt hg hS.keysOf (fun v₁ v₂ rest e => keyKind_strs (by rw [← e]; exact hS)) h64 fun st' a1 a2 => ⟨_, rfl, ?_⟩) (args_list_sort _)))
  obtain ⟨ss', h1, h2, h3⟩ := sorted_out_str hS a1 a2
  exact wpAny_pure ⟨_, rfl, h g _ ss' hk h1 h2 h3⟩
end
open L2
/-- sorted(xs), xs a list or a tuple of texts -/
def rSortedST (K : PySem.W.Frag) : List V → Hp → VK → Prop := fun vs H Q => ∃ (a : Addr) (xs : List Str), vs = [V.ref a] ∧ (SqL K H a (xs.map V.str) ∨ SqT K H a (xs.map V.str)) ∧ xs.length < 64 ∧
  ∀ (ys : List Str) (p : Addr), ys.Perm xs → sortedS ys = true → H p = none → Q (.ref p) (upd H p (.lst (ys.map V.str)))
theorem cr_sortedST {X : Cx} : CallR X (.builtin "sorted") (rSortedST X.K) := by
  intro pins s σ H vs us Q I r h
  obtain ⟨a, xs, rfl, hs, h64, q⟩ := h
  rcases hs with hs | hs
  · exact cr_sortedS pins s σ H [V.ref a] us Q I r ⟨a, xs, rfl, hs, h64, q⟩
  · obtain ⟨its, rv, hl, _⟩ := I.tuple hs
    rw [Vals.ref1 r]
    have hlen0 := rv.length
    rw [List.length_map] at hlen0
    refine sorted_strsT hl rv.strs (by rw [← hlen0]; exact h64) fun g out ys hk h1 h2 h3 => ?_
    have I1 : Inv X pins σ H { s with heap := g } := I.kept hk
    have hg : (g.push (seqObj "list" its.toArray 0)).get? g.objs.size = some (seqObj "list" its.toArray 0) := Heap.get?_push_size _ rfl
    obtain ⟨ep, he'⟩ := sortedHeap_at (out := out) hg
    have hlen : (ys.map V.str).length ≤ sizeLine := by rw [List.length_map, h2.length_eq]; exact small64 h64
    refine ⟨.ref _, upd H g.objs.size (.lst (ys.map V.str)), I1.laid (t' := s.toks) (fun b o e => ?_) (Nat.le_refl _) ⟨hlen, out.toList, ep, vals_of_strs h1, he'⟩, rfl, q ys _ h2 h3 (I1.hok.fresh (Nat.le_refl _))⟩
    have hb : b < g.objs.size := Heap.lt_size e
    rw [sortedHeap_old (Nat.ne_of_lt hb) (Nat.lt_of_lt_of_le hb (by rw [Heap.size_push]; exact Nat.le_succ _))]
    exact Heap.get?_push_of_some _ e
end Pw

set_option Elab.async false
set_option linter.all false
set_option maxRecDepth 100000
namespace Pw
open PySem PySem.Builtin PySem.Builtin.Str PySem.StrLaws TL

/-! ### where a word stands first -/
def Has (l w : List Nat) : Prop := ∃ i, w <+: l.drop i
/-- the end of the first place at which w stands -/
def fEnd : List Nat → List Nat → Option Nat
  | [], w => if w = [] then some 0 else none
  | c :: r, w => if w <+: c :: r then some w.length else (fEnd r w).map (· + 1)
theorem has_nil {w : List Nat} (hw : w ≠ []) : ¬ Has [] w := fun ⟨i, h⟩ => by
  rw [List.drop_nil] at h
  exact hw (List.prefix_nil.mp h)
theorem has_cons {c : Nat} {r w : List Nat} : Has (c :: r) w ↔ w <+: c :: r ∨ Has r w := by
  constructor
  · rintro ⟨i, h⟩
    cases i with
    | zero => exact .inl h
    | succ i => exact .inr ⟨i, h⟩
  · rintro (h | ⟨i, h⟩)
    · exact ⟨0, h⟩
    · exact ⟨i + 1, h⟩
theorem fEnd_spec : ∀ (l w : List Nat), w ≠ [] → (fEnd l w = none ∧ ∀ i, ¬ w <+: l.drop i) ∨ ∃ i, fEnd l w = some (i + w.length) ∧ w <+: l.drop i ∧ ∀ k, k < i → ¬ w <+: l.drop k
  | [], w, hw => by
    refine .inl ⟨?_, fun i h => ?_⟩
    · unfold fEnd
      rw [if_neg hw]
    · exact has_nil hw ⟨i, h⟩
  | c :: r, w, hw => by
    unfold fEnd
    by_cases h : w <+: c :: r
    · rw [if_pos h]
      exact .inr ⟨0, by rw [Nat.zero_add], h, fun k hk => absurd hk (Nat.not_lt_zero _)⟩
    · rw [if_neg h]
      rcases fEnd_spec r w hw with ⟨e, hn⟩ | ⟨i, e, hi, hk⟩
      · refine .inl ⟨by rw [e]; rfl, fun i => ?_⟩
        cases i with
        | zero => exact h
        | succ i => exact hn i
      · refine .inr ⟨i + 1, ?_, hi, fun k hk2 => ?_⟩
        · rw [e]
          show some (i + w.length + 1) = some (i + 1 + w.length)
          congr 1
          omega
        · cases k with
          | zero => exact h
          | succ k => exact hk k (by omega)
theorem fEnd_none {l w : List Nat} (hw : w ≠ []) : fEnd l w = none ↔ ¬ Has l w := by
  rcases fEnd_spec l w hw with ⟨e, hn⟩ | ⟨i, e, hi, hk⟩
  · exact ⟨fun _ ⟨i, h⟩ => hn i h, fun _ => e⟩
  · constructor
    · intro h
      rw [e] at h
      cases h
    · intro h
      exact absurd ⟨i, hi⟩ h
theorem fEnd_some {l w : List Nat} (hw : w ≠ []) : (fEnd l w).isSome = true ↔ Has l w := by
  cases h : fEnd l w with
  | none =>
    have := (fEnd_none hw).mp h
    exact ⟨fun z => (nomatch z), fun z => absurd z this⟩
  | some e =>
    refine ⟨fun _ => ?_, fun _ => rfl⟩
    rcases fEnd_spec l w hw with ⟨e, hn⟩ | ⟨i, e, hi, hk⟩
    · rw [h] at e
      cases e
    · exact ⟨i, hi⟩
theorem pre_room {l w : List Nat} {i : Nat} (hw : w ≠ []) (h : w <+: l.drop i) : i + w.length ≤ l.length := by
  have h1 := h.length_le
  rw [List.length_drop] at h1
  have h2 : 0 < w.length := List.length_pos_iff.mpr hw
  omega
theorem fEnd_le {l w : List Nat} {e : Nat} (hw : w ≠ []) (h : fEnd l w = some e) : e ≤ l.length := by
  rcases fEnd_spec l w hw with ⟨e1, hn⟩ | ⟨i, e1, hi, hk⟩
  · rw [h] at e1
    cases e1
  · rw [h] at e1
    have := pre_room hw hi
    have := Option.some.inj e1
    omega
theorem has_take {l w : List Nat} {k : Nat} (hw : w ≠ []) : Has (l.take k) w ↔ ∃ e, fEnd l w = some e ∧ e ≤ k := by
  constructor
  · rintro ⟨i, h⟩
    have h2 := pre_room hw h
    rw [List.length_take] at h2
    have h3 : w <+: l.drop i := by
      rw [List.drop_take] at h
      exact h.trans (List.take_prefix _ _)
    rcases fEnd_spec l w hw with ⟨e1, hn⟩ | ⟨j, e1, hj, hk⟩
    · exact absurd h3 (hn i)
    · refine ⟨_, e1, ?_⟩
      by_cases hij : i < j
      · exact absurd h3 (hk i hij)
      · omega
  · rintro ⟨e, h1, h2⟩
    rcases fEnd_spec l w hw with ⟨e1, hn⟩ | ⟨j, e1, hj, hk⟩
    · rw [h1] at e1
      cases e1
    · rw [h1] at e1
      have e2 := Option.some.inj e1
      refine ⟨j, ?_⟩
      rw [List.drop_take]
      exact List.prefix_take_iff.mpr ⟨hj, by omega⟩
/-! ### find and in -/
theorem at_pre {x y : Str} (hy : tl y ≠ []) (i : Nat) : At x y x.length i ↔ tl y <+: (tl x).drop i := by
  rw [at_iff hy]
  show (((tl x).drop i).take (tl y).length == tl y) = true ↔ _
  rw [beq_iff_eq, List.prefix_iff_eq_take]
  exact eq_comm
theorem find_end {x y : Str} (hy : tl y ≠ []) : (Txt.find x y < 0 ∧ fEnd (tl x) (tl y) = none) ∨ ∃ i : Nat, Txt.find x y = (i : Int) ∧ fEnd (tl x) (tl y) = some (i + (tl y).length) := by
  rcases PyProof.Rows.find_whole x y with ⟨h1, h2⟩ | ⟨i, h1, h2, h3⟩
  · refine .inl ⟨by omega, (fEnd_none hy).mpr fun ⟨i, h⟩ => h2 i ((at_pre hy i).mpr h)⟩
  · refine .inr ⟨i, h1, ?_⟩
    rcases fEnd_spec (tl x) (tl y) hy with ⟨e, hn⟩ | ⟨j, e, hj, hk⟩
    · exact absurd ((at_pre hy i).mp h2) (hn i)
    · rw [e]
      have a1 : ¬ i < j := fun z => hk i z ((at_pre hy i).mp h2)
      have a2 : ¬ j < i := fun z => h3 j z ((at_pre hy j).mpr hj)
      have : j = i := by omega
      rw [this]
theorem in_has {x y : Str} (hy : tl y ≠ []) : (!(occurrences x y 0 x.length 1).isEmpty) = (fEnd (tl x) (tl y)).isSome := by
  have h1 := found_iff x y
  have h2 := fEnd_some (l := tl x) hy
  have h3 : (∃ i, i + y.length ≤ x.length ∧ subAt x y i = true) ↔ Has (tl x) (tl y) :=
    ⟨fun ⟨i, h⟩ => ⟨i, (at_pre hy i).mp h⟩, fun ⟨i, h⟩ => ⟨i, (at_pre hy i).mpr h⟩⟩
  rw [Bool.eq_iff_iff, h1, h3, h2]
/-! ### runs as words -/
def zerosL (n : Nat) : List Nat := List.replicate n 48
def gapW (m : Nat) : List Nat := 49 :: (zerosL m ++ [49])
theorem has_app {a r w : List Nat} (hw : w ≠ []) (h49 : 49 ∉ w) : Has (a ++ 49 :: r) w ↔ Has a w ∨ Has r w := by
  induction a with
  | nil =>
    rw [List.nil_append, has_cons]
    constructor
    · rintro (h | h)
      · cases w with
        | nil => exact absurd rfl hw
        | cons d w =>
          have := (List.cons_prefix_cons.mp h).1
          exact absurd (List.mem_cons_self) (this ▸ h49)
      · exact .inr h
    · rintro (h | h)
      · exact absurd h (has_nil hw)
      · exact .inr h
  | cons c a ih =>
    rw [List.cons_append, has_cons, has_cons, ih]
    constructor
    · rintro (h | h | h)
      · refine .inl (.inl ?_)
        have hl : w.length ≤ (c :: a).length := by
          by_cases z : w.length ≤ (c :: a).length
          · exact z
          · exfalso
            obtain ⟨t, ht⟩ := h
            have e := congrArg (·[(c :: a).length]?) ht
            rw [List.getElem?_append_left (by omega)] at e
            have e2 : (c :: (a ++ 49 :: r))[(c :: a).length]? = some 49 := by
              rw [show c :: (a ++ 49 :: r) = (c :: a) ++ 49 :: r from rfl, List.getElem?_append_right (Nat.le_refl _), Nat.sub_self]
              rfl
            rw [e2] at e
            exact h49 (List.mem_of_getElem? e)
        rw [show c :: (a ++ 49 :: r) = (c :: a) ++ 49 :: r from rfl] at h
        have h2 := List.prefix_iff_eq_take.mp h
        rw [List.take_append_of_le_length hl] at h2
        exact List.prefix_iff_eq_take.mpr h2
      · exact .inl (.inr h)
      · exact .inr h
    · rintro ((h | h) | h)
      · refine .inl ?_
        rw [show c :: (a ++ 49 :: r) = (c :: a) ++ 49 :: r from rfl]
        exact h.trans (List.prefix_append _ _)
      · exact .inr (.inl h)
      · exact .inr (.inr h)
theorem has_zeros (h k : Nat) : Has (zerosL k) (zerosL (h + 1)) ↔ h < k := by
  constructor
  · rintro ⟨i, hp⟩
    have := hp.length_le
    unfold zerosL at this
    rw [List.length_drop, List.length_replicate, List.length_replicate] at this
    omega
  · intro hk
    refine ⟨0, ?_⟩
    rw [List.drop_zero]
    unfold zerosL
    refine ⟨List.replicate (k - (h + 1)) 48, ?_⟩
    rw [List.replicate_append_replicate]
    congr 1
    omega
theorem zeros_ne (h : Nat) : zerosL (h + 1) ≠ [] := by
  unfold zerosL
  rw [List.replicate_succ]
  exact List.cons_ne_nil _ _
theorem zeros_no (h : Nat) : 49 ∉ zerosL h := fun z => by
  have := (List.mem_replicate.mp z).2
  omega
theorem zeros_snoc (k : Nat) (r : List Nat) : zerosL k ++ 48 :: r = zerosL (k + 1) ++ r := by
  unfold zerosL
  rw [List.replicate_succ', List.append_assoc]
  rfl
theorem idle_has (h : Nat) : ∀ (l : List Nat), Pure l → ∀ k, (∃ n ∈ runL k l, h < n) ↔ Has (zerosL k ++ l) (zerosL (h + 1))
  | [], _, k => by
    rw [List.append_nil, has_zeros]
    unfold runL
    simp
  | c :: r, hp, k => by
    have hr : Pure r := fun d hd => hp d (List.mem_cons_of_mem _ hd)
    unfold runL
    rcases hp c List.mem_cons_self with e | e
    · subst e
      rw [if_neg (by decide), idle_has h r hr (k + 1), zeros_snoc]
    · subst e
      rw [if_pos rfl, has_app (zeros_ne h) (zeros_no _), has_zeros]
      have ih := idle_has h r hr 0
      rw [show zerosL 0 ++ r = r from rfl] at ih
      rw [← ih]
      constructor
      · rintro ⟨n, hn, hl⟩
        rcases List.mem_cons.mp hn with z | z
        · exact .inl (z ▸ hl)
        · exact .inr ⟨n, z, hl⟩
      · rintro (z | ⟨n, z, hl⟩)
        · exact ⟨k, List.mem_cons_self, z⟩
        · exact ⟨n, List.mem_cons_of_mem _ z, hl⟩
theorem gap_ne (m : Nat) : gapW m ≠ [] := List.cons_ne_nil _ _
theorem has_48 {r : List Nat} {m : Nat} : Has (48 :: r) (gapW m) ↔ Has r (gapW m) := by
  rw [has_cons]
  refine ⟨fun h => ?_, .inr⟩
  rcases h with h | h
  · exact absurd (List.cons_prefix_cons.mp h).1 (by decide)
  · exact h
theorem has_zs {r : List Nat} {m : Nat} : ∀ k, Has (zerosL k ++ r) (gapW m) ↔ Has r (gapW m)
  | 0 => Iff.rfl
  | k + 1 => by
    have e : zerosL (k + 1) ++ r = 48 :: (zerosL k ++ r) := by
      unfold zerosL
      rw [List.replicate_succ]
      rfl
    rw [e, has_48, has_zs k]
theorem zeros_pre (r : List Nat) : ∀ (m k : Nat), zerosL m ++ [49] <+: zerosL k ++ 49 :: r ↔ m = k
  | 0, 0 => ⟨fun _ => rfl, fun _ => ⟨r, rfl⟩⟩
  | 0, k + 1 => by
    refine ⟨fun h => ?_, fun h => (nomatch h)⟩
    have : (49 : Nat) = 48 := (List.cons_prefix_cons.mp h).1
    exact absurd this (by decide)
  | m + 1, 0 => by
    refine ⟨fun h => ?_, fun h => (nomatch h)⟩
    have : (48 : Nat) = 49 := (List.cons_prefix_cons.mp h).1
    exact absurd this (by decide)
  | m + 1, k + 1 => by
    have e1 : zerosL (m + 1) ++ [49] = 48 :: (zerosL m ++ [49]) := by
      unfold zerosL
      rw [List.replicate_succ]
      rfl
    have e2 : zerosL (k + 1) ++ 49 :: r = 48 :: (zerosL k ++ 49 :: r) := by
      unfold zerosL
      rw [List.replicate_succ]
      rfl
    rw [e1, e2, List.cons_prefix_cons, zeros_pre r m k]
    omega
theorem gap_end (m : Nat) : ∀ k, ¬ zerosL m ++ [49] <+: zerosL k := fun k h => by
  have := h.subset (List.mem_append_right _ (List.mem_singleton.mpr rfl))
  exact zeros_no k this
theorem low_has (lo : Nat) : ∀ (l : List Nat), Pure l → ∀ k, (∃ n ∈ (runL k l).dropLast, n < lo) ↔ ∃ m, m < lo ∧ Has (49 :: (zerosL k ++ l)) (gapW m)
  | [], _, k => by
    unfold runL
    constructor
    · rintro ⟨n, hn, _⟩
      cases hn
    · rintro ⟨m, _, h⟩
      rw [List.append_nil, has_cons] at h
      rcases h with h | h
      · exact absurd (List.cons_prefix_cons.mp h).2 (gap_end m k)
      · have h2 := (has_zs (r := []) (m := m) k).mp (by rw [List.append_nil]; exact h)
        exact absurd h2 (has_nil (gap_ne m))
  | c :: r, hp, k => by
    have hr : Pure r := fun d hd => hp d (List.mem_cons_of_mem _ hd)
    unfold runL
    rcases hp c List.mem_cons_self with e | e
    · subst e
      rw [if_neg (by decide), low_has lo r hr (k + 1), zeros_snoc]
    · subst e
      have ih := low_has lo r hr 0
      rw [show zerosL 0 ++ r = r from rfl] at ih
      rw [if_pos rfl, List.dropLast_cons_of_ne_nil (runL_ne _ _)]
      have key : ∀ m, Has (49 :: (zerosL k ++ 49 :: r)) (gapW m) ↔ m = k ∨ Has (49 :: r) (gapW m) := fun m => by
        rw [has_cons, has_zs]
        unfold gapW
        rw [List.cons_prefix_cons, zeros_pre]
        constructor
        · rintro (⟨_, z⟩ | z)
          · exact .inl z
          · exact .inr z
        · rintro (z | z)
          · exact .inl ⟨rfl, z⟩
          · exact .inr z
      constructor
      · rintro ⟨n, hn, hl⟩
        rcases List.mem_cons.mp hn with z | z
        · exact ⟨k, z ▸ hl, (key k).mpr (.inl rfl)⟩
        · obtain ⟨m, hm, h2⟩ := ih.mp ⟨n, z, hl⟩
          exact ⟨m, hm, (key m).mpr (.inr h2)⟩
      · rintro ⟨m, hm, h2⟩
        rcases (key m).mp h2 with z | z
        · exact ⟨k, List.mem_cons_self, z ▸ hm⟩
        · obtain ⟨n, hn, hl⟩ := ih.mpr ⟨m, hm, z⟩
          exact ⟨n, List.mem_cons_of_mem _ hn, hl⟩
theorem low_first (lo : Nat) : ∀ (l : List Nat), Pure l → ∀ k, (∃ n ∈ ((runL k l).drop 1).dropLast, n < lo) ↔ ∃ m, m < lo ∧ Has l (gapW m)
  | [], _, k => by
    unfold runL
    constructor
    · rintro ⟨n, hn, _⟩
      cases hn
    · rintro ⟨m, _, h⟩
      exact absurd h (has_nil (gap_ne m))
  | c :: r, hp, k => by
    have hr : Pure r := fun d hd => hp d (List.mem_cons_of_mem _ hd)
    unfold runL
    rcases hp c List.mem_cons_self with e | e
    · subst e
      rw [if_neg (by decide), low_first lo r hr (k + 1)]
      constructor
      · rintro ⟨m, hm, h⟩
        exact ⟨m, hm, has_48.mpr h⟩
      · rintro ⟨m, hm, h⟩
        exact ⟨m, hm, has_48.mp h⟩
    · subst e
      rw [if_pos rfl, List.drop_succ_cons, List.drop_zero, low_has lo r hr 0]
      rfl
/-! ### the swing along a row -/
def wid (l : List Nat) : Int := (hiS l).2.1 - (hiS l).2.2
theorem wid_step (l : List Nat) (i : Nat) : wid (l.take i) ≤ wid (l.take (i + 1)) := by
  cases h : l[i]? with
  | none =>
    have hl := List.getElem?_eq_none_iff.mp h
    rw [List.take_of_length_le hl, List.take_of_length_le (by omega)]
    exact Int.le_refl _
  | some c =>
    rw [take_snoc h]
    unfold wid
    rw [hiS_snoc]
    dsimp only
    split <;> split <;> omega
theorem wid_mono (l : List Nat) {i k : Nat} (h : i ≤ k) : wid (l.take i) ≤ wid (l.take k) := by
  induction k with
  | zero =>
    have : i = 0 := by omega
    subst this
    exact Int.le_refl _
  | succ k ih =>
    by_cases e : i = k + 1
    · subst e
      exact Int.le_refl _
    · exact Int.le_trans (ih (by omega)) (wid_step l k)
/-- the first beginning that swings beyond s -/
def spanEnd (l : List Nat) : Option Int → Option Nat
  | none => none
  | some s => (List.range (l.length + 1)).find? fun i => decide (s < wid (l.take i))
theorem span_take {l : List Nat} {s : Int} {k : Nat} (hk : k ≤ l.length) : s < wid (l.take k) ↔ ∃ e, spanEnd l (some s) = some e ∧ e ≤ k := by
  unfold spanEnd
  dsimp only
  constructor
  · intro h
    cases hf : (List.range (l.length + 1)).find? fun i => decide (s < wid (l.take i)) with
    | none =>
      have := List.find?_eq_none.mp hf k (List.mem_range.mpr (by omega))
      exact absurd (decide_eq_true h) this
    | some e =>
      refine ⟨e, rfl, ?_⟩
      by_cases hek : e ≤ k
      · exact hek
      · have h2 := (List.find?_range_eq_some.mp hf).2.2 k (by omega)
        rw [decide_eq_true h] at h2
        cases h2
  · rintro ⟨e, he, hek⟩
    have h1 : s < wid (l.take e) := of_decide_eq_true (List.find?_some (p := fun i => decide (s < wid (l.take i))) he)
    exact Int.lt_of_lt_of_le h1 (wid_mono l hek)
theorem span_le {l : List Nat} {wd : Option Int} {e : Nat} (h : spanEnd l wd = some e) : e ≤ l.length := by
  cases wd with
  | none => cases h
  | some s =>
    have := List.mem_range.mp (List.mem_of_find?_eq_some h)
    omega
/-! ### what is lawful -/
/-- barred words, short gaps, long idles -/
def piecesL (xs : List Str) (lo : Int) (hi : Option Int) : List (List Nat) :=
  xs.map tl ++ (List.range lo.toNat).map gapW ++ (match hi with | none => [] | some h => [zerosL (h + 1).toNat])
def hiB (l : List Nat) : Option Int → Bool
  | none => true
  | some h => (runL 0 l).all fun n => decide ((n : Int) ≤ h)
def wdB (l : List Nat) : Option Int → Bool
  | none => true
  | some s => decide (wid l ≤ s)
def lawB (xs : List Str) (lo : Int) (hi wd : Option Int) (l : List Nat) : Bool :=
  !(xs.any fun y => (fEnd l (tl y)).isSome) &&
  (hiB l hi &&
  ((((runL 0 l).drop 1).dropLast.all fun n => decide (lo ≤ (n : Int))) &&
  wdB l wd))
def endsL (xs : List Str) (lo : Int) (hi wd : Option Int) (l : List Nat) : List (Option Nat) := (piecesL xs lo hi).map (fEnd l) ++ [spanEnd l wd]
theorem pieces_ne {xs : List Str} {lo : Int} {hi : Option Int} (hx : ∀ x ∈ xs, tl x ≠ []) (hh : ∀ h, hi = some h → 0 ≤ h) : ∀ w ∈ piecesL xs lo hi, w ≠ [] := by
  intro w hw
  unfold piecesL at hw
  rcases List.mem_append.mp hw with h | h
  · rcases List.mem_append.mp h with h | h
    · obtain ⟨x, h1, h2⟩ := List.mem_map.mp h
      exact h2 ▸ hx x h1
    · obtain ⟨x, h1, h2⟩ := List.mem_map.mp h
      exact h2 ▸ gap_ne x
  · cases hi with
    | none => cases h
    | some h' =>
      have h0 := hh h' rfl
      have e : w = zerosL (h' + 1).toNat := List.mem_singleton.mp h
      rw [e, show (h' + 1).toNat = h'.toNat + 1 by omega]
      exact zeros_ne _
theorem pure_take {l : List Nat} (h : Pure l) (k : Nat) : Pure (l.take k) := fun c hc => h c (List.mem_of_mem_take hc)
theorem all_false {α : Type} {l : List α} {p : α → Bool} : l.all p = false ↔ ∃ x ∈ l, p x = false := by
  rw [Bool.eq_false_iff, ne_eq, List.all_eq_true]
  constructor
  · intro h
    apply Classical.byContradiction
    intro h2
    refine h fun x hx => ?_
    cases e : p x with
    | true => rfl
    | false => exact absurd ⟨x, hx, e⟩ h2
  · rintro ⟨x, hx, e⟩ h
    rw [h x hx] at e
    cases e
theorem law_take {xs : List Str} {lo : Int} {hi wd : Option Int} {l : List Nat} {k : Nat} (hp : Pure l) (hx : ∀ x ∈ xs, tl x ≠ []) (hl : 0 ≤ lo) (hh : ∀ h, hi = some h → 0 ≤ h) (hk : k ≤ l.length) :
    lawB xs lo hi wd (l.take k) = false ↔ ∃ e, some e ∈ endsL xs lo hi wd l ∧ e ≤ k := by
  have hpk := pure_take hp k
  have hA : (∃ e, some e ∈ endsL xs lo hi wd l ∧ e ≤ k) ↔ (∃ x ∈ xs, Has (l.take k) (tl x)) ∨ (∃ m, m < lo.toNat ∧ Has (l.take k) (gapW m)) ∨ (∃ h, hi = some h ∧ Has (l.take k) (zerosL (h + 1).toNat)) ∨ (∃ s, wd = some s ∧ s < wid (l.take k)) := by
    constructor
    · rintro ⟨e, he, hek⟩
      unfold endsL at he
      rcases List.mem_append.mp he with h | h
      · obtain ⟨w, hw, hf⟩ := List.mem_map.mp h
        have hne := pieces_ne hx hh w hw
        have hh2 : Has (l.take k) w := (has_take hne).mpr ⟨e, hf, hek⟩
        unfold piecesL at hw
        rcases List.mem_append.mp hw with h | h
        · rcases List.mem_append.mp h with h | h
          · obtain ⟨x, h1, h2⟩ := List.mem_map.mp h
            exact .inl ⟨x, h1, h2 ▸ hh2⟩
          · obtain ⟨m, h1, h2⟩ := List.mem_map.mp h
            exact .inr (.inl ⟨m, List.mem_range.mp h1, h2 ▸ hh2⟩)
        · cases hi with
          | none => cases h
          | some h' => exact .inr (.inr (.inl ⟨h', rfl, (List.mem_singleton.mp h) ▸ hh2⟩))
      · have h2 := (List.mem_singleton.mp h).symm
        cases wd with
        | none => cases h2
        | some s => exact .inr (.inr (.inr ⟨s, rfl, (span_take hk).mpr ⟨e, h2, hek⟩⟩))
    · have put : ∀ w, w ∈ piecesL xs lo hi → Has (l.take k) w → ∃ e, some e ∈ endsL xs lo hi wd l ∧ e ≤ k := fun w hw h => by
        obtain ⟨e, h1, h2⟩ := (has_take (pieces_ne hx hh w hw)).mp h
        exact ⟨e, List.mem_append_left _ (List.mem_map.mpr ⟨w, hw, h1⟩), h2⟩
      rintro (⟨x, h1, h2⟩ | ⟨m, h1, h2⟩ | ⟨h, rfl, h2⟩ | ⟨s, rfl, h2⟩)
      · exact put _ (List.mem_append_left _ (List.mem_append_left _ (List.mem_map.mpr ⟨x, h1, rfl⟩))) h2
      · exact put _ (List.mem_append_left _ (List.mem_append_right _ (List.mem_map.mpr ⟨m, List.mem_range.mpr h1, rfl⟩))) h2
      · exact put _ (List.mem_append_right _ (List.mem_singleton.mpr rfl)) h2
      · obtain ⟨e, h3, h4⟩ := (span_take hk).mp h2
        exact ⟨e, List.mem_append_right _ (List.mem_singleton.mpr h3.symm), h4⟩
  rw [hA]
  unfold lawB
  rw [Bool.and_eq_false_iff, Bool.and_eq_false_iff, Bool.and_eq_false_iff]
  have b1 : (!(xs.any fun y => (fEnd (l.take k) (tl y)).isSome)) = false ↔ ∃ x ∈ xs, Has (l.take k) (tl x) := by
    rw [Bool.not_eq_false', List.any_eq_true]
    constructor
    · rintro ⟨x, h1, h2⟩
      exact ⟨x, h1, (fEnd_some (hx x h1)).mp h2⟩
    · rintro ⟨x, h1, h2⟩
      exact ⟨x, h1, (fEnd_some (hx x h1)).mpr h2⟩
  have b2 : hiB (l.take k) hi = false ↔ ∃ h, hi = some h ∧ Has (l.take k) (zerosL (h + 1).toNat) := by
    cases hi with
    | none => exact ⟨fun z => (nomatch z), fun ⟨_, z, _⟩ => (nomatch z)⟩
    | some h =>
      have h0 := hh h rfl
      have ih := idle_has h.toNat (l.take k) hpk 0
      rw [show zerosL 0 ++ l.take k = l.take k from rfl, show h.toNat + 1 = (h + 1).toNat by omega] at ih
      show (runL 0 (l.take k)).all (fun n => decide ((n : Int) ≤ h)) = false ↔ _
      rw [all_false]
      constructor
      · rintro ⟨n, h1, h2⟩
        have := of_decide_eq_false h2
        exact ⟨h, rfl, ih.mp ⟨n, h1, by omega⟩⟩
      · rintro ⟨h', e, h2⟩
        obtain rfl : h = h' := Option.some.inj e
        obtain ⟨n, h3, h4⟩ := ih.mpr h2
        exact ⟨n, h3, decide_eq_false (by omega)⟩
  have b3 : (((runL 0 (l.take k)).drop 1).dropLast.all fun n => decide (lo ≤ (n : Int))) = false ↔ ∃ m, m < lo.toNat ∧ Has (l.take k) (gapW m) := by
    rw [← low_first lo.toNat (l.take k) hpk 0, all_false]
    constructor
    · rintro ⟨n, h1, h2⟩
      have := of_decide_eq_false h2
      exact ⟨n, h1, by omega⟩
    · rintro ⟨n, h1, h2⟩
      exact ⟨n, h1, decide_eq_false (by omega)⟩
  have b4 : wdB (l.take k) wd = false ↔ ∃ s, wd = some s ∧ s < wid (l.take k) := by
    cases wd with
    | none => exact ⟨fun z => (nomatch z), fun ⟨_, z, _⟩ => (nomatch z)⟩
    | some s =>
      constructor
      · intro h
        have := of_decide_eq_false h
        exact ⟨s, rfl, by omega⟩
      · rintro ⟨s', e, h2⟩
        obtain rfl : s = s' := Option.some.inj e
        exact decide_eq_false (by omega)
  rw [b1, b2, b3, b4]
  constructor
  · rintro (h | h | h | h)
    · exact .inl h
    · exact .inr (.inr (.inl h))
    · exact .inr (.inl h)
    · exact .inr (.inr (.inr h))
  · rintro (h | h | h | h)
    · exact .inl h
    · exact .inr (.inr (.inl h))
    · exact .inr (.inl h)
    · exact .inr (.inr (.inr h))
/-! ### the least of a list, None of none -/
def MinOf (o : Option Int) (ns : List Int) : Prop := (o = none ∧ ns = []) ∨ ∃ m, o = some m ∧ m ∈ ns ∧ ∀ y ∈ ns, m ≤ y
def somesI (os : List (Option Nat)) : List Int := (os.filterMap id).map fun (n : Nat) => (n : Int)
def badsL (xs : List Str) (lo : Int) (hi wd : Option Int) (l : List Nat) (n : Nat) : List Int := ((List.range n).filter fun k => !(lawB xs lo hi wd (l.take k))).map fun (n : Nat) => (n : Int)
theorem mem_somes {os : List (Option Nat)} {y : Int} : y ∈ somesI os ↔ ∃ e : Nat, some e ∈ os ∧ y = (e : Int) := by
  unfold somesI
  rw [List.mem_map]
  constructor
  · rintro ⟨e, h1, h2⟩
    obtain ⟨o, h3, h4⟩ := List.mem_filterMap.mp h1
    refine ⟨e, ?_, h2.symm⟩
    have : o = some e := h4
    rw [← this]
    exact h3
  · rintro ⟨e, h1, h2⟩
    exact ⟨e, List.mem_filterMap.mpr ⟨some e, h1, rfl⟩, h2.symm⟩
theorem ends_le {xs : List Str} {lo : Int} {hi wd : Option Int} {l : List Nat} (hx : ∀ x ∈ xs, tl x ≠ []) (hh : ∀ h, hi = some h → 0 ≤ h) {e : Nat} (h : some e ∈ endsL xs lo hi wd l) : e ≤ l.length := by
  unfold endsL at h
  rcases List.mem_append.mp h with h | h
  · obtain ⟨w, hw, hf⟩ := List.mem_map.mp h
    exact fEnd_le (pieces_ne hx hh w hw) hf
  · exact span_le (List.mem_singleton.mp h).symm
theorem fault_is {xs : List Str} {lo : Int} {hi wd : Option Int} {l : List Nat} {o u : Option Int} (hp : Pure l) (hx : ∀ x ∈ xs, tl x ≠ []) (hl : 0 ≤ lo) (hh : ∀ h, hi = some h → 0 ≤ h)
    (ho : MinOf o (somesI (endsL xs lo hi wd l))) (hu : MinOf u (badsL xs lo hi wd l (l.length + 1))) : o = u := by
  have key : ∀ k, k ≤ l.length → (((k : Nat) : Int) ∈ badsL xs lo hi wd l (l.length + 1) ↔ ∃ e, some e ∈ endsL xs lo hi wd l ∧ e ≤ k) := fun k hk => by
    rw [← law_take hp hx hl hh hk]
    unfold badsL
    rw [List.mem_map]
    constructor
    · rintro ⟨j, h1, h2⟩
      have : j = k := by omega
      subst this
      have h3 := (List.mem_filter.mp h1).2
      simpa using h3
    · intro h
      exact ⟨k, List.mem_filter.mpr ⟨List.mem_range.mpr (by omega), by rw [h]; rfl⟩, rfl⟩
  have inb : ∀ y ∈ badsL xs lo hi wd l (l.length + 1), ∃ k : Nat, y = (k : Int) ∧ k ≤ l.length := fun y hy => by
    unfold badsL at hy
    obtain ⟨k, h1, h2⟩ := List.mem_map.mp hy
    have := List.mem_range.mp (List.mem_filter.mp h1).1
    exact ⟨k, h2.symm, by omega⟩
  rcases ho with ⟨rfl, h1⟩ | ⟨m, rfl, h1, h2⟩
  · rcases hu with ⟨rfl, _⟩ | ⟨n, rfl, h3, _⟩
    · rfl
    · obtain ⟨k, rfl, hk⟩ := inb n h3
      obtain ⟨e, he, _⟩ := (key k hk).mp h3
      have : (e : Int) ∈ somesI (endsL xs lo hi wd l) := mem_somes.mpr ⟨e, he, rfl⟩
      rw [h1] at this
      cases this
  · obtain ⟨e, he, rfl⟩ := mem_somes.mp h1
    have hel := ends_le hx hh he
    have hb : ((e : Nat) : Int) ∈ badsL xs lo hi wd l (l.length + 1) := (key e hel).mpr ⟨e, he, Nat.le_refl _⟩
    rcases hu with ⟨rfl, h3⟩ | ⟨n, rfl, h3, h4⟩
    · rw [h3] at hb
      cases hb
    · congr 1
      obtain ⟨k, rfl, hk⟩ := inb n h3
      obtain ⟨e2, he2, hle⟩ := (key k hk).mp h3
      have a1 := h4 _ hb
      have a2 := h2 _ (mem_somes.mpr ⟨e2, he2, rfl⟩)
      omega
theorem min_none {o : Option Int} {ns : List Int} (h : MinOf o ns) : o.isNone = decide (ns = []) := by
  rcases h with ⟨rfl, rfl⟩ | ⟨m, rfl, h1, _⟩
  · rfl
  · rw [decide_eq_false (fun z => by rw [z] at h1; cases h1)]
    rfl
end Pw

set_option Elab.async false
set_option linter.all false
set_option maxRecDepth 100000
set_option maxHeartbeats 4000000
namespace Pw
open PySem PySem.Spec PyProof.Rows L2 TL
/-- a number or None -/
def vO : Option Int → V
  | none => .non
  | some i => .int i
theorem fold_min : ∀ (ns : List Int) (n : Int), ns.foldl min n ∈ n :: ns ∧ ∀ y ∈ n :: ns, ns.foldl min n ≤ y
  | [], n => ⟨List.mem_cons_self, fun y hy => by rw [List.mem_singleton.mp hy]; exact Int.le_refl _⟩
  | k :: r, n => by
    obtain ⟨h1, h2⟩ := fold_min r (min n k)
    rw [List.foldl_cons]
    refine ⟨?_, fun y hy => ?_⟩
    · rcases List.mem_cons.mp h1 with z | z
      · rw [z]
        by_cases h : n ≤ k
        · rw [Int.min_eq_left h]
          exact List.mem_cons_self
        · rw [Int.min_eq_right (by omega)]
          exact List.mem_cons_of_mem _ List.mem_cons_self
      · exact List.mem_cons_of_mem _ (List.mem_cons_of_mem _ z)
    · have hm := h2 (min n k) List.mem_cons_self
      rcases List.mem_cons.mp hy with z | z
      · rw [z]
        exact Int.le_trans hm (Int.min_le_left _ _)
      · rcases List.mem_cons.mp z with z | z
        · rw [z]
          exact Int.le_trans hm (Int.min_le_right _ _)
        · exact h2 y (List.mem_cons_of_mem _ z)
/-- min(xs, default=None) of a list of ints -/
def rMinD (K : PySem.W.Frag) : List V → List V → Hp → VK → Prop := fun vs zs H Q => ∃ (a : Addr) (ns : List Int), vs = [V.ref a] ∧ zs = [.non] ∧ SqL K H a (ns.map V.int) ∧ ∀ o, MinOf o ns → Q (vO o) H
theorem crk_min {X : Cx} (hc : X.calm = true) (hu : X.A.units + 64 < cLine) : CallRK X (.builtin "min") ["default"] (rMinD X.K) := by
  intro pins s σ H vs zs us ws Q I r rz h
  obtain ⟨a, ns, rfl, rfl, hs, q⟩ := h
  obtain ⟨its, rv, hl, _⟩ := I.list hs
  rw [Vals.ref1 r]
  obtain ⟨u, rfl, ru⟩ := rz.one
  cases (show u = Value.none from ru)
  have h0 := PyProof.Rows.depthAll_ints ns
  refine PySem.W.min_list_default (xs := ns.map PyData.int) (as := []) (I.ok.hd hc) hl.isList (by simpa using IntsAre.reads s.heap rv.ints) ?_ (by rw [h0]; omega) (fun e h' tk hk => ?_) (fun y ys i v h' tk bs e hi rd hk => ?_)
  · exact PySem.W.alikeAll_datum ns
  · refine ⟨.non, H, I.kept hk, rfl, ?_⟩
    exact q none (.inl ⟨rfl, List.map_eq_nil_iff.mp e⟩)
  · cases ns with
    | nil => cases e
    | cons n r2 =>
      rw [List.map_cons] at e
      injection e with e1 e2
      subst e1
      subst e2
      rw [PySem.W.minD_ints] at rd
      obtain ⟨t, rfl⟩ : ∃ t, v = .int (r2.foldl min n) t := by
        cases rd
        exact ⟨_, rfl⟩
      obtain ⟨h1, h2⟩ := fold_min r2 n
      exact ⟨.int _, H, I.kept hk, ⟨_, rfl⟩, q (some _) (.inr ⟨_, rfl, h1, h2⟩)⟩
/-- text * number -/
theorem op_mulS {X : Cx} : OpR X (binaryOp .Mult) (fun x y H Q => ∃ (z : Str) (n : Nat), x = .str z ∧ y = .int (n : Nat) ∧ z.length ≤ 1 ∧ n ≤ 1000 ∧ Q (.str (Txt.mul z (n : Int))) H) := by
  intro pins s σ H x y v u Q I rx ry h
  obtain ⟨z, n, rfl, rfl, hz, hn, q⟩ := h
  obtain ⟨t, rfl⟩ := (show ∃ t, v = Value.str z t from rx)
  obtain ⟨t', rfl⟩ := (show ∃ t, u = Value.int (n : Nat) t from ry)
  refine SB.mul ⟨?_, fun h1 h2 => ?_, fun h1 h2 => ?_⟩ fun t2 k => ⟨.str _, H, I.tok k, ⟨_, rfl⟩, q⟩
  · rw [decide_eq_false (by omega), decide_eq_false (by omega)]
    rfl
  · have h3 : (1 : Int) ≤ (2 ^ 63 - 1) / (n : Int) := by
      rw [Int.le_ediv_iff_mul_le (by omega)]
      omega
    omega
  · have h3 : z.length * ((n : Int)).toNat ≤ 1000 := Nat.le_trans (Nat.mul_le_mul hz (show ((n : Int)).toNat ≤ 1000 by omega)) (by decide)
    generalize z.length * ((n : Int)).toNat = k at h3
    show decide _ = false
    refine decide_eq_false fun z => ?_
    exact absurd (Nat.lt_of_lt_of_le z h3) (by decide)
theorem tl_mul (c n : Nat) : tl (Txt.mul ⟨#[c]⟩ (n : Int)) = List.replicate n c := PyProof.Rows.mul_one_list c n
/-- for i, x in enumerate(list) -/
theorem for_enumL {K : PySem.W.Frag} {a : Addr} {xs : List V} {g : TG} {tb : TS} {D : Ends} {σ : L2.St} {H : Hp} (Pv : Nat → L2.St → Hp → Prop) (h0 : Pv 0 σ H) (hl : ∀ i σ H, i ≤ xs.length → Pv i σ H → SqL K H a xs)
    (hs : ∀ i x σ H T, xs[i]? = some x → Pv i σ H → H T = none → g (.ref T) σ (upd H T (.tup [.int (i : Nat), x])) fun σ2 H2 => tb { D with nx := Pv (i + 1), ct := Pv (i + 1), bk := D.nx } σ2 H2)
    (hd : ∀ σ H, Pv xs.length σ H → D.nx σ H) :
    ∃ W : Nat → Nat → L2.St → Hp → Prop, (∃ m, W 0 m σ H) ∧ ∀ i m σ H, W i m σ H →
      ((Ite K a).stop i H ∧ D.nx σ H) ∨ ((Ite K a).go i H ∧ ∃ N : L2.St → Hp → Prop, (∀ σ' H', N σ' H' → ∃ m', m' < m ∧ W (i + 1) m' σ' H') ∧ ∀ v H', (Ite K a).yld i H v H' → g v σ H' fun σ2 H2 => tb { D with nx := N, ct := N, bk := D.nx } σ2 H2) := by
  refine ⟨fun i m σ H => m = xs.length - i ∧ i ≤ xs.length ∧ Pv i σ H, ⟨xs.length, by simp, Nat.zero_le _, h0⟩, ?_⟩
  rintro i m σ H ⟨rfl, hi, p⟩
  have q := hl i σ H hi p
  by_cases hlt : i < xs.length
  · refine .inr ⟨⟨xs, xs[i], q, by simp [hlt]⟩, Pv (i + 1), fun σ' H' p' => ⟨xs.length - (i + 1), by omega, rfl, hlt, p'⟩, fun v H' y => ?_⟩
    obtain ⟨T, x, rfl, nT, rfl, y⟩ := y
    exact hs i x σ H T (y xs q) p nT
  · have e : i = xs.length := by omega
    subst e
    exact .inl ⟨⟨xs, q, Nat.le_refl _⟩, hd σ H p⟩
/-- [.. for c in text ..] -/
theorem lc_str {z : Str} {g : TG} {tt : TT} {te : TE} {vs : List Nat} {σ : L2.St} {H1 : Hp} {D : Addr} {Qd : Hp → Prop} (Pv : Nat → Hp → Prop) (h0 : Pv 0 (upd H1 D (.lst [])))
    (hs : ∀ i c H, z.cps[i]? = some c → Pv i H → g (.str ⟨#[c]⟩) (wipe σ vs) H fun σ2 H2 => wipe σ2 vs = wipe σ vs ∧ tt σ2 H2 fun b H3 =>
      if b = true then te σ2 H3 fun y H4 => ∃ acc, H4 D = some (.lst acc) ∧ acc.length < sizeLine ∧ Pv (i + 1) (upd H4 D (.lst (acc ++ [y]))) else Pv (i + 1) H3) (hd : ∀ H, Pv z.cps.size H → Qd H) :
    ∃ W : Nat → Nat → Hp → Prop, (∃ m, W 0 m (upd H1 D (.lst []))) ∧ ∀ i m H, W i m H →
      ((Its z).stop i H ∧ Qd H) ∨ ((Its z).go i H ∧ ∃ Nx : Hp → Prop, (∀ H', Nx H' → ∃ m', m' < m ∧ W (i + 1) m' H') ∧ ∀ x H', (Its z).yld i H x H' → g x (wipe σ vs) H' fun σ2 H2 => wipe σ2 vs = wipe σ vs ∧ tt σ2 H2 fun b H3 =>
        if b = true then te σ2 H3 fun y H4 => ∃ acc, H4 D = some (.lst acc) ∧ acc.length < sizeLine ∧ Nx (upd H4 D (.lst (acc ++ [y]))) else Nx H3) := by
  refine ⟨fun i m H => m = z.cps.size - i ∧ i ≤ z.cps.size ∧ Pv i H, ⟨z.cps.size, by simp, Nat.zero_le _, h0⟩, ?_⟩
  rintro i m H ⟨rfl, hi, p⟩
  by_cases hlt : i < z.cps.size
  · refine .inr ⟨hlt, Pv (i + 1), fun H' p' => ⟨z.cps.size - (i + 1), by omega, rfl, hlt, p'⟩, fun x H' y => ?_⟩
    obtain ⟨e, c, hc, rfl⟩ := y
    subst e
    exact hs i c _ hc p
  · have e : i = z.cps.size := by omega
    subst e
    exact .inl ⟨Nat.le_refl _, hd H p⟩
end Pw

set_option Elab.async false
set_option linter.all false
set_option maxRecDepth 100000
set_option maxHeartbeats 4000000
namespace Pw
open PySem PySem.Spec PyProof.Rows L2
/-! sorted(set(xs)), xs a list of texts: the set with the order in which it is walked -/
def uniq : List Str → List Str → List Str
  | acc, [] => acc
  | acc, x :: r => uniq (if x ∈ acc then acc else acc ++ [x]) r
theorem uniq_snoc (x : Str) : ∀ (l acc : List Str), uniq acc (l ++ [x]) = if x ∈ uniq acc l then uniq acc l else uniq acc l ++ [x]
  | [], acc => rfl
  | y :: r, acc => uniq_snoc x r _
theorem uniq_nodup : ∀ (l acc : List Str), acc.Nodup → (uniq acc l).Nodup
  | [], acc, h => h
  | y :: r, acc, h => by
    refine uniq_nodup r _ ?_
    split
    · exact h
    · rename_i hn
      rw [List.nodup_append]
      exact ⟨h, List.pairwise_singleton _ y, fun a ha b hb z => hn (by rw [List.mem_singleton.mp hb] at z; exact z ▸ ha)⟩
theorem uniq_mem (x : Str) : ∀ (l acc : List Str), x ∈ uniq acc l ↔ x ∈ acc ∨ x ∈ l
  | [], acc => by simp [uniq]
  | y :: r, acc => by
    show x ∈ uniq _ r ↔ _
    rw [uniq_mem x r]
    split
    · rename_i hy
      constructor
      · rintro (h | h)
        · exact .inl h
        · exact .inr (List.mem_cons_of_mem _ h)
      · rintro (h | h)
        · exact .inl h
        · rcases List.mem_cons.mp h with rfl | h
          · exact .inl hy
          · exact .inr h
    · rw [List.mem_append, List.mem_singleton, List.mem_cons]
      exact or_assoc
theorem uniq_len : ∀ (l acc : List Str), (uniq acc l).length ≤ acc.length + l.length
  | [], acc => by simp [uniq]
  | y :: r, acc => by
    have := uniq_len r (if y ∈ acc then acc else acc ++ [y])
    show (uniq _ r).length ≤ _
    rw [List.length_cons]
    split at this
    · rename_i h
      rw [if_pos h]
      omega
    · rename_i h
      rw [if_neg h]
      rw [List.length_append, List.length_singleton] at this
      omega
def keyX (e : Int × Value) : Str := match e.2 with
  | .str k _ => k
  | _ => Str.empty
/-- the entries el and the table tb of a set with the texts ks -/
structure XE (P : Program) (w : World) (ks : List Str) (el : Array (Int × Value)) (tb : SetTable) : Prop where
  good : ∀ e ∈ el.toList, ∃ k tk, e.2 = Value.str k tk ∧ e.1 = (PySem.strKind P w).hash k
  keys : (el.toList.map keyX).Perm ks
  room : ks.length < scanBound
  fits : tb.fits el.size = true
  ris : Ris tb.place.toList
  led : w.params.followText "set-order" = true ∨ tb.led = true
def XSet (P : Program) (w : World) (h : Heap) (a : Addr) (ks : List Str) : Prop := ∃ ob el ev tb, h.get? a = some ob ∧ ob.ExactSet ∧ ob.data = .set el ev tb ∧ XE P w ks el tb
section
variable {P : Program} {w : World} {A : Around} {E : Value → Shared → Prop} {s : Shared} {a : Addr} {ks : List Str}
theorem XE.size {el : Array (Int × Value)} {tb : SetTable} (x : XE P w ks el tb) : el.size = ks.length := by
  rw [← x.keys.length_eq, List.length_map, Array.length_toList]
theorem XE.elems {el : Array (Int × Value)} {tb : SetTable} (x : XE P w ks el tb) : ElemsOf (PySem.strKind P w) el.toList := fun e he => by
  obtain ⟨k, tk, e1, e2⟩ := x.good e he
  refine ⟨⟨k, ?_, e2⟩, ?_⟩
  · rw [e1]
    exact strKind_is P w k tk
  · rw [e1]
    rfl
theorem XE.is {el : Array (Int × Value)} {tb : SetTable} (x : XE P w ks el tb) (k : Str) : k ∈ ks ↔ ∃ e ∈ el.toList, (PySem.strKind P w).is k e.2 = true := by
  rw [← x.keys.mem_iff, List.mem_map]
  have one : ∀ e ∈ el.toList, keyX e = k ↔ (PySem.strKind P w).is k e.2 = true := fun e he => by
    obtain ⟨k2, tk, e1, _⟩ := x.good e he
    unfold keyX
    rw [e1]
    show k2 = k ↔ (PySem.strKind P w).is k (.str k2 tk) = true
    simp [PySem.strKind, Value.isStrOf]
  exact ⟨fun ⟨e, he, q⟩ => ⟨e, he, (one e he).1 q⟩, fun ⟨e, he, q⟩ => ⟨e, he, (one e he).2 q⟩⟩
/-- laid anew where the table is too full -/
theorem xe_relay {el : Array (Int × Value)} {tb : SetTable} (x : XE P w ks el tb) (n : Nat) : XE P w ks (relayAll tb el n).1 (relayAll tb el n).2.1 where
  good := fun e he => x.good e ((relayAll_perm tb el n).mem_iff.mp he)
  keys := ((relayAll_perm tb el n).map keyX).trans x.keys
  room := x.room
  fits := relayAll_fits tb el n
  ris := relayAll_ris tb el n
  led := x.led.imp id fun z => by rw [relayAll_led]; exact z
theorem xe_new {el : Array (Int × Value)} {tb : SetTable} (x : XE P w ks el tb) (k : Str) (tk : Tok) (hb : ks.length + 1 < scanBound) :
    XE P w (ks ++ [k]) (layNew tb el ((PySem.strKind P w).hash k) (.str k tk)).1 (layNew tb el ((PySem.strKind P w).hash k) (.str k tk)).2.1 := by
  have pm := layNew_perm tb el ((PySem.strKind P w).hash k) (.str k tk)
  rw [Array.toList_push] at pm
  refine ⟨fun e he => ?_, ?_, ?_, layNew_fits tb el _ _, layNew_ris tb el _ _ x.ris, x.led.imp id fun z => by rw [layNew_led]; exact z⟩
  · rcases List.mem_append.mp (pm.mem_iff.mp he) with z | z
    · exact x.good e z
    · rw [List.mem_singleton.mp z]
      exact ⟨k, tk, rfl, rfl⟩
  · refine (pm.map keyX).trans ?_
    rw [List.map_append]
    exact x.keys.append_right _
  · rw [List.length_append, List.length_singleton]
    exact hb
theorem x_put {ob : Obj} {el e2 : Array (Int × Value)} {ev : Nat} {tb t2 : SetTable} {h : Heap} (h0 : h.get? a = some ob) (hx : ob.ExactSet) (h2 : ob.data = .set el ev tb) (x : XE P w ks e2 t2) : XSet P w (h.update a (Obj.putSet e2 t2)) a ks :=
  ⟨_, e2, _, t2, store_at h0 h2, hx, rfl, x⟩
theorem x_tail {gv : Bool → Sem Unit} (hgv : ∀ (b : Bool) (s₁ : Shared) (Q' : Unit → Shared → Prop), Q' () s₁ → wpAny (model P w) A (gv b) Q' E s₁)
    {ob : Obj} {el : Array (Int × Value)} {ev : Nat} {tb : SetTable} (h0 : s.heap.get? a = some ob) (hx : ob.ExactSet) (h2 : ob.data = .set el ev tb)
    {e1 : Array (Int × Value)} {t1 : SetTable} (x : XE P w ks e1 t1) {dm : Bool} {R : Option Bool → Shared → Prop}
    (hR : ∀ h', Heap.SameBut a s.heap h' → XSet P w h' a ks → R (some true) { s with heap := h' }) :
    wpAny (model P w) A (do
        storeSet a e1 t1
        if (!dm && t1.tooFull) = true then do
            gv (relayAll t1 e1 (SetTable.grown e1.size)).2.2
            storeSet a (relayAll t1 e1 (SetTable.grown e1.size)).1 (relayAll t1 e1 (SetTable.grown e1.size)).2.1
            pure (some true)
          else pure (some true)) R E s := by
  have z1 : e1.size < scanBound := by rw [x.size]; exact x.room
  have up1 := Heap.SameBut.update s.heap a (Obj.putSet e1 t1)
  refine wpAny_bind (wpAny_storeSet_of h0 h2 ?_ (fits_of_scanBound z1))
  split
  · have y := xe_relay x (SetTable.grown e1.size)
    generalize relayAll t1 e1 (SetTable.grown e1.size) = Z at y ⊢
    have z2 : Z.1.size < scanBound := by rw [y.size]; exact y.room
    have g1 := store_at (es' := e1) (t' := t1) h0 h2
    refine wpAny_bind (hgv _ _ _ (wpAny_bind (wpAny_storeSet_of g1 rfl (wpAny_pure (hR _ (up1.trans (Heap.SameBut.update _ a _)) (x_put g1 hx rfl y))) (fits_of_scanBound z2))))
  · exact wpAny_pure (hR _ up1 (x_put h0 hx h2 x))
theorem xe_plain {el : Array (Int × Value)} {tb : SetTable} (x : XE P w ks el tb) : XE P w ks el { tb with plain := false } := ⟨x.good, x.keys, x.room, SetTable.fits_plain_off x.fits, x.ris, x.led⟩
theorem x_add {k : Str} {tk : Tok} {Q : Bool → Shared → Prop} (X : XSet P w s.heap a ks) (hb : ks.length + 1 < scanBound)
    (hQ : ∀ h', Heap.SameBut a s.heap h' → XSet P w h' a (if k ∈ ks then ks else ks ++ [k]) → ∀ b, Q b { s with heap := h' }) :
    wpAny (model P w) A (setAddHashed a (.str k tk) ((PySem.strKind P w).hash k)) Q E s := by
  obtain ⟨ob, el, ev, tb, h0, hx, h2, x⟩ := X
  have is1 : (PySem.strKind P w).is k (.str k tk) = true := strKind_is P w k tk
  have z0 : el.size < scanBound := by rw [x.size]; exact x.room
  have sc1 : (Value.str k tk).scannable = true := rfl
  unfold setAddHashed setAddHashedIn
  refine wpAny_holding (wpAny_bind (wpAny_setState_of h0 h2 x.fits ?_))
  dsimp only
  rw [byScan_of sc1 z0 x.elems]
  simp only [↓reduceIte]
  unfold setAddByScan
  refine wpAny_bind (wpAny_bind (wpAny_rule (wpAny_bind (wpAny_setScan_of is1 h0 h2 x.fits x.elems ?_))))
  cases hfi : List.findIdx? (fun e => (PySem.strKind P w).is k e.2) el.toList with
  | some j =>
    obtain ⟨hj, pj, _⟩ := List.findIdx?_eq_some_iff_getElem.mp hfi
    have hin : k ∈ ks := (x.is k).2 ⟨el.toList[j], List.getElem_mem hj, pj⟩
    refine wpAny_pure (wpAny_pure (hQ s.heap (Heap.SameBut.refl a s.heap) ?_ _))
    rw [if_pos hin]
    exact ⟨ob, el, ev, tb, h0, hx, h2, x⟩
  | none =>
    have hin : k ∉ ks := fun z => by
      obtain ⟨e, he, q⟩ := (x.is k).1 z
      rw [List.findIdx?_eq_none_iff.mp hfi e he] at q
      cases q
    rw [if_neg hin] at hQ
    have y := xe_new x k tk hb
    have gw : ∀ (b : Bool) (s₁ : Shared) (Q' : Unit → Shared → Prop), Q' () s₁ → wpAny (model P w) A (match b with | true => rule "set.scan.the-table-gave-way" | false => pure ()) Q' E s₁ := fun b s₁ Q' q => by
      cases b
      · exact wpAny_pure q
      · exact wpAny_rule q
    dsimp only
    generalize layNew tb el ((PySem.strKind P w).hash k) (.str k tk) = Z at y ⊢
    obtain ⟨e1, t1, dm, gave⟩ := Z
    dsimp only at y ⊢
    refine wpAny_bind (gw _ _ _ ?_)
    split
    · refine wpAny_bind ?_
      rw [hashByValue_scannable 8 sc1]
      refine wpAny_pure ?_
      first
        | (split
           · exact x_tail gw h0 hx h2 y fun h' sb r => wpAny_pure (hQ h' sb r _)
           · exact x_tail gw h0 hx h2 (xe_plain y) fun h' sb r => wpAny_pure (hQ h' sb r _))
        | exact x_tail gw h0 hx h2 y fun h' sb r => wpAny_pure (hQ h' sb r _)
        | exact x_tail gw h0 hx h2 (xe_plain y) fun h' sb r => wpAny_pure (hQ h' sb r _)
    · refine wpAny_bind (wpAny_pure ?_)
      simp only [↓reduceIte]
      exact x_tail gw h0 hx h2 y fun h' sb r => wpAny_pure (hQ h' sb r _)
end
section
variable {prog : Program} {w : World} {A : Around} {R : Result → Shared → Prop} {I : Addr} {fp wr : List Addr} {G : Array GenState → Array GenState → Prop} {n : Nat} {P : Nat → Value → Prop} {St : Nat → Shared → Prop}
theorem XSet.at {P : Program} {h h' : Heap} {a : Addr} {ks : List Str} (x : XSet P w h a ks) (k : ∀ o, h.get? a = some o → h'.get? a = some o) : XSet P w h' a ks := let ⟨ob, el, ev, tb, h0, r⟩ := x; ⟨ob, el, ev, tb, k _ h0, r⟩
theorem x_loop (W : WalksS prog w A.in1 I fp wr G n P St) (S : Addr) (hSf : S ∉ fp) (xs : List Str) (hsz : xs.length = n) (hn : n ≤ 60) (hval : ∀ i v, P i v → ∃ t, v = .str (xs.getD i Str.empty) t) :
    ∀ (k i : Nat) (s : Shared), n - i = k → i ≤ n → St i s → XSet prog w s.heap S (uniq [] (xs.take i)) →
      (∀ s', Moved (S :: wr) G s s' → XSet prog w s'.heap S (uniq [] (xs.take n)) → R (.ok (.ret .none)) s') →
      codeAny (model prog w) A (.builtin "set.update.loop" ⟨[.ref S, .ref I], []⟩) R s := by
  have nSw : S ∉ wr := fun h => hSf (W.sub _ h)
  have inW : ∀ b ∈ wr, b ∈ S :: wr := fun b hb => List.mem_cons_of_mem _ hb
  intro k
  induction k with
  | zero =>
    intro i s hk hi hst hS hR
    obtain rfl : i = n := by omega
    refine codeAny_builtin PyProof.Rows.F.entry_set_update_loop ?_
    rw [Around.under_plainId PyProof.Rows.F.plain_set_update_loop _]
    show wpAny _ A.in1 (pyNext (.ref I) >>= _) _ _ s
    refine wpAny_bind (W.done s _ _ hst fun s' hm => ?_)
    show wpAny _ A.in1 (ret Value.none) _ _ s'
    exact wpAny_pure (hR s' (hm.mono inW) (hS.at fun o ho => hm.heap S _ nSw ho))
  | succ k ih =>
    intro i s hk hi hst hS hR
    have hlt : i < n := by omega
    have hix : i < xs.length := by omega
    refine codeAny_builtin PyProof.Rows.F.entry_set_update_loop ?_
    rw [Around.under_plainId PyProof.Rows.F.plain_set_update_loop _]
    show wpAny _ A.in1 (pyNext (.ref I) >>= _) _ _ s
    refine wpAny_bind (W.item i s _ _ hlt hst fun v s' hP hst' hm => ?_)
    obtain ⟨t, rfl⟩ := hval i v hP
    have eget : xs.getD i Str.empty = xs[i] := by simp [List.getD, hix]
    rw [eget]
    have hS' : XSet prog w s'.heap S (uniq [] (xs.take i)) := hS.at fun o ho => hm.heap S _ nSw ho
    have hroom : (uniq [] (xs.take i)).length + 1 < scanBound := by
      have := uniq_len (xs.take i) []
      rw [List.length_take] at this
      unfold scanBound
      simp only [List.length_nil] at this
      omega
    show wpAny _ A.in1 (holding [Value.str xs[i] t] (setAdd S (.str xs[i] t)) >>= _) _ _ s'
    refine wpAny_bind (wpAny_holding ?_)
    unfold setAdd
    refine wpAny_holding ?_
    refine wpAny_bind ((PySem.strKind prog w).pyHash (k := xs[i]) (strKind_is _ _ _ _) ?_)
    refine x_add (s := { s' with toks := s'.toks + 1 }) hS' hroom fun h' hsb hS2 _ => ?_
    have etake : xs.take (i + 1) = xs.take i ++ [xs[i]] := by
      rw [List.take_add_one, List.getElem?_eq_getElem hix]
      rfl
    rw [← uniq_snoc, ← etake] at hS2
    refine wpAny_pure ⟨plainId_quiet PyProof.Rows.F.plain_set_update_loop _, ih (i + 1) _ (by omega) hlt (W.frame _ s' _ _ hst' (Nat.le_succ _) fun b hb o e => ?_) hS2 fun s'' hm'' hS'' => ?_⟩
    · rw [hsb.2 b (fun z : b = S => hSf (by rw [← z]; exact hb))]
      exact e
    · refine hR s'' (Moved.trans W.gtrans ((hm.mono inW).then_heap (Nat.le_succ _) fun b o hb e => ?_) hm'') hS''
      rw [hsb.2 b (fun z : b = S => hb (by rw [z]; exact List.mem_cons_self))]
      exact e
end
section
variable {prog : Program} {w : World} {A : Around} {E : Value → Shared → Prop} {s : Shared}
theorem x_made (v : Value) {Q₁ : Value → Shared → Prop} (h : Q₁ (.ref s.heap.objs.size) { s with heap := s.heap.push (set0 (!w.params.followText "set-order")) }) :
    codeAny (model prog w) A (.call (.builtin "set.__new__") ⟨[.type "set", v], []⟩) (wants Q₁ E) s := by
  refine codeAny_of_tree ?_
  show wpAny _ A.in1 (checkBuiltinCall "set.__new__" ⟨[.type "set", v], []⟩ >>= fun _ => again (.builtin "set.__new__" ⟨[.type "set", v], []⟩)) _ _ s
  refine wpAny_bind (wpAny_of_eq (PySem.F.newCall_set_1 v) (wpAny_pure ⟨plainId_quiet PySem.F.plain_set_new _, codeAny_builtin PySem.F.entry_set_new ?_⟩))
  rw [Around.under_plainId PySem.F.plain_set_new _]
  have hsub := sub_set_self
  obtain ⟨hp, g, d, tk, os⟩ := s
  unfold Builtin.«set.__new__» Builtin.Frozenset.newClass
  dsimp only
  wp_walk
  refine wpAny_askSetting (wpAny_pure ?_)
  simp only [newObj]
  exact wpAny_bind (wpAny_alloc (wpAny_pure (wpAny_pure h)))
theorem x_fresh {h : Heap} : XSet prog w (h.push (set0 (!w.params.followText "set-order"))) h.objs.size [] :=
  ⟨_, #[], 0, _, Heap.get?_push_size _ rfl, ⟨rfl, rfl, rfl⟩, rfl, ⟨fun e he => absurd he (by simp), List.Perm.refl _, by decide, by rfl, List.Pairwise.nil, by
    show _ ∨ (!w.params.followText "set-order") = true
    cases w.params.followText "set-order" <;> simp⟩⟩
/-- set(x), with its order -/
theorem xset_by {x : Addr} {xs : List Str} {n : Nat} {Q : Value → Shared → Prop}
    (hinit : ∀ (R : Fin → Shared → Prop) (E' : Value → Shared → Prop), (∀ (h' : Heap) (tk : Nat), XSet prog w h' s.heap.objs.size (uniq [] (xs.take n)) → (∀ b o, b < s.heap.objs.size → s.heap.get? b = some o → h'.get? b = some o) → R (.done (.ret .none)) { s with heap := h', toks := tk }) →
      wpAny (model prog w) A.in1.in1 (Builtin.«set.__init__» ⟨[.ref s.heap.objs.size, .ref x], []⟩) R E' { s with heap := s.heap.push (set0 (!w.params.followText "set-order")) })
    (h : ∀ (h' : Heap) (tk : Nat), XSet prog w h' s.heap.objs.size (uniq [] (xs.take n)) → (∀ b o, b < s.heap.objs.size → s.heap.get? b = some o → h'.get? b = some o) → Q (.ref s.heap.objs.size) { s with heap := h', toks := tk }) :
    wpAny (model prog w) A (call (.type "set") [.ref x]) Q E s := by
  obtain ⟨c, tl, hmro⟩ := PySem.F.called_set.mro
  have hmade := PySem.F.called_set.made
  have hsub := PySem.F.called_set.sub
  refine wpAny_call (codeAny_of_tree ?_)
  show wpAny _ _ (callAny (.type "set") _) _ _ _
  refine wpAny_pure ⟨Code.quiet_builtin _ (by decide +kernel), codeAny_builtin PySem.F.entry_type_call ?_⟩
  rw [Around.under_plain (weight_type_call_type "set" [.ref x] []) rfl]
  have h1 := PySem.F.called_set.notType
  have h2 := PySem.F.called_set.canCreate
  have hct := PySem.F.typeCall_set_1 (.ref x)
  repeat (any_goals (first | assumption | wp_step))
  refine codeAny_mono (x_made (.ref x) (E := E) (Q₁ := fun obj s₁ => obj = .ref s.heap.objs.size ∧ s₁ = { s with heap := s.heap.push (set0 (!w.params.followText "set-order")) }) ⟨rfl, rfl⟩) fun r s₁ hr => ?_
  cases r with
  | error e => exact hr
  | ok fl =>
    cases fl with
    | ret obj =>
      obtain ⟨rfl, rfl⟩ := hr
      have hS : (s.heap.push (set0 (!w.params.followText "set-order"))).get? s.heap.objs.size = some (set0 (!w.params.followText "set-order")) := Heap.get?_push_size _ rfl
      have hT : Shared.TypeIs { s with heap := s.heap.push (set0 (!w.params.followText "set-order")) } (.ref s.heap.objs.size) "set" := ⟨_, hS, rfl⟩
      have hli := PySem.F.called_set.init.lookup
      have hbi := PySem.F.called_set.init.bind (.ref s.heap.objs.size)
      repeat (any_goals (first | assumption | wp_step))
      refine codeAny_mono (codeAny_call_builtin (R := wants (fun r s₂ => r = .none ∧ ∃ h' tk, s₂ = { s with heap := h', toks := tk } ∧ XSet prog w h' s.heap.objs.size (uniq [] (xs.take n)) ∧
          (∀ b o, b < s.heap.objs.size → s.heap.get? b = some o → h'.get? b = some o)) E) PySem.F.called_set.init.plain PySem.F.entry_set_init (check_set_init_1 hT ?_)) fun r₂ s₂ hr₂ => ?_
      · exact hinit _ _ fun h' tk a b => ⟨rfl, h', tk, rfl, a, b⟩
      · cases r₂ with
        | error e => exact hr₂
        | ok fl₂ =>
          cases fl₂ with
          | ret r =>
            obtain ⟨rfl, h', tk, rfl, hS', hk'⟩ := hr₂
            repeat (any_goals (first | assumption | wp_step))
            exact h _ _ hS' hk'
          | _ => exact hr₂.elim
    | _ => exact hr.elim
theorem xset_list {x : Addr} {items : Array Value} {xs : List Str} {Q : Value → Shared → Prop} (hh : A.handled = none) (hl : s.heap.IsList x items) (hi : PyProof.Rows.StrsAre items.toList xs) (hn : xs.length ≤ 60)
    (h : ∀ (h' : Heap) (tk : Nat), XSet prog w h' s.heap.objs.size (uniq [] (xs.take items.size)) → (∀ b o, b < s.heap.objs.size → s.heap.get? b = some o → h'.get? b = some o) → Q (.ref s.heap.objs.size) { s with heap := h', toks := tk }) :
    wpAny (model prog w) A (call (.type "set") [.ref x]) Q E s := by
  refine xset_by (n := items.size) (fun R E' hR => ?_) h
  obtain ⟨⟨ocls, odict, odata, oslots⟩, hol, hcl, nl, hdl⟩ := hl
  simp only at hcl hdl
  subst hcl
  subst hdl
  have hS : (s.heap.push (set0 (!w.params.followText "set-order"))).get? s.heap.objs.size = some (set0 (!w.params.followText "set-order")) := Heap.get?_push_size _ rfl
  have hol' : (s.heap.push (set0 (!w.params.followText "set-order"))).get? x = some { cls := .type "list", dict := odict, data := .seq items nl, slots := oslots } := Heap.get?_push_of_some _ hol
  have hsls := PySem.F.sub_list_set
  have hslf := PySem.F.sub_list_frozenset
  have hne : (Value.type "list" == Value.type "dict") = false := by decide
  have hl1 : (s.heap.push (set0 (!w.params.followText "set-order"))).IsList x items := ⟨_, hol', rfl, nl, rfl⟩
  unfold Builtin.«set.__init__» noKeywords Builtin.Frozenset.updateFrom
  generalize hPI : pyIter = PI
  wp_walk
  subst hPI
  refine wpAny_pyIter_list hl1 (wpAny_bind (wpAny_runValue ?_))
  have hlS : x < s.heap.objs.size := Heap.lt_size hol
  have hh3 : A.in1.in1.in1.handled = none := by simp [hh]
  have hneI : x ≠ (s.heap.push (set0 (!w.params.followText "set-order"))).objs.size := by
    rw [Heap.size_push]
    exact Nat.ne_of_lt (Nat.lt_succ_of_lt hlS)
  have hSf : s.heap.objs.size ∉ [(s.heap.push (set0 (!w.params.followText "set-order"))).objs.size, x] := by
    rw [Heap.size_push]
    simp only [List.mem_cons, List.mem_singleton, List.not_mem_nil, or_false, not_or]
    exact ⟨Nat.ne_of_lt (Nat.lt_succ_self _), Nat.ne_of_gt hlS⟩
  have hsz : xs.length = items.size := by rw [← StrsAre.len_eq hi, Array.length_toList]
  have hval : ∀ (i : Nat) (v : Value), items[i]? = some v → ∃ t, v = .str (xs.getD i Str.empty) t := fun i v hv => SS.strs_at hi i v (by rw [Array.getElem?_toList]; exact hv)
  refine x_loop ((Walks.list hh3 _ x hneI items).toS) s.heap.objs.size hSf xs hsz (by rw [← hsz]; exact hn) hval (items.size - 0) 0 _ (by omega) (Nat.zero_le _) ⟨⟨_, Heap.get?_push_size _ rfl, rfl, rfl⟩, (hl1.push _)⟩ ?hS0 ?hR
  case hS0 =>
    have hget : ((s.heap.push (set0 (!w.params.followText "set-order"))).push { cls := .type "list_iterator", data := .fields #[.ref x, .int 0 0] }).get? s.heap.objs.size = some (set0 (!w.params.followText "set-order")) := Heap.get?_push_of_some _ hS
    exact x_fresh.at fun o e => Heap.get?_push_of_some _ e
  case hR =>
    intro s' hm hS'
    obtain ⟨h', g', d', tk', os'⟩ := s'
    obtain rfl : g' = s.gens := hm.gens
    obtain rfl : d' = s.drawn := hm.drawn
    obtain rfl : os' = s.os := hm.os
    show wpAny _ _ _ _ _ _
    refine wpAny_pure ?_
    show wpAny _ _ (ret Value.none) _ _ _
    refine wpAny_pure (hR h' tk' hS' fun b o hb e => ?_)
    have hb1 : b ≠ s.heap.objs.size := Nat.ne_of_lt hb
    have hb2 : b ≠ (s.heap.push (set0 (!w.params.followText "set-order"))).objs.size := by
      rw [Heap.size_push]
      exact Nat.ne_of_lt (Nat.lt_succ_of_lt hb)
    exact hm.heap b o (by simp only [List.mem_cons, List.mem_singleton, List.not_mem_nil, or_false, not_or]; exact ⟨hb1, hb2⟩) (Heap.get?_push_of_some _ (Heap.get?_push_of_some _ e))
theorem strs_of : ∀ (l : List Value), (∀ v ∈ l, ∃ k tk, v = Value.str k tk) → StrsAre l (l.map fun v => keyX (0, v))
  | [], _ => .nil
  | v :: l, h => by
    obtain ⟨k, tk, rfl⟩ := h v List.mem_cons_self
    exact .cons k tk (strs_of l fun u hu => h u (List.mem_cons_of_mem _ hu))
theorem sorted_x {a : Addr} {ks : List Str} {Q : Value → Shared → Prop} (R : XSet prog w s.heap a ks) (hh : A.handled = none) (h64 : ks.length < 64)
    (hQ : ∀ s' p (out : Array Value) (c : Nat) (ys : List Str), (∀ b o, s.heap.get? b = some o → s'.heap.get? b = some o) → s'.gens = s.gens → s'.os = s.os → s.heap.objs.size ≤ p →
      s'.heap.get? p = some (seqObj "list" out c) → StrsAre out.toList ys → ys.Perm ks → sortedS ys = true → Q (.ref p) s') :
    wpAny (model prog w) A (call (.builtin "sorted") [.ref a]) Q E s := by
  obtain ⟨ob, el, ev, tb, h0, hx, h2, x⟩ := R
  have z0 : el.size < scanBound := by rw [x.size]; exact x.room
  refine Calls.call_function_entry kind_sorted plain_sorted entry_sorted (args_sorted1 _) ?_
  unfold Builtin.«sorted»
  refine wpAny_bind (m := checkCount "sorted" 1 1 _) (wpAny_pure (wpAny_bind (collect_set (A := A.in1) hh ⟨ob, h0, hx.1, h2⟩ x.fits z0 x.ris x.led fun s1 vs k1 hz g1 o1 pm => ?_)))
  have hvl : vs.length < 64 := by rw [pm.length_eq, List.length_map, Array.length_toList, x.size]; exact h64
  have hS : StrsAre vs (vs.map fun v => keyX (0, v)) := strs_of vs fun v hv => by
    obtain ⟨e, he, rfl⟩ := List.mem_map.mp (pm.mem_iff.mp hv)
    obtain ⟨k, tk, h1, _⟩ := x.good e he
    exact ⟨k, tk, h1⟩
  have pk : (vs.map fun v => keyX (0, v)).Perm ks := by
    have q := pm.map fun v => keyX (0, v)
    rw [List.map_map] at q
    exact q.trans x.keys
  refine wpAny_bind (wpAny_newList ?_ (by rw [sizeLine_eq]; omega))
  have hg : (s1.heap.push (seqObj "list" vs.toArray 0)).get? s1.heap.objs.size = some (seqObj "list" vs.toArray 0) := Heap.get?_push_size _ rfl
  refine wpAny_bind (wpAny_holding (wpAny_call_entry (s := { s1 with heap := s1.heap.push (seqObj "list" vs.toArray 0) }) slot_list_sort ⟨_, hg, rfl⟩ entry_list_sort
    (list_sort_treeK strKind_oneLt hg hS.keysOf (fun v₁ v₂ rest e => keyKind_strs (by rw [← e]; exact hS)) hvl fun st' a1 a2 => ⟨_, rfl, ?_⟩) (args_list_sort _)))
  obtain ⟨ys, b1, b2, b3⟩ := sorted_out_str hS a1 a2
  obtain ⟨c, hc⟩ := sortedHeap_at (vs := vs) (out := _) hg
  refine wpAny_pure ⟨_, rfl, hQ _ s1.heap.objs.size _ c ys (fun b u e => ?_) g1 o1 hz hc b1 (b2.trans pk) b3⟩
  have q := k1 b u e
  have hlt := Heap.lt_size q
  show (sortedHeap (s1.heap.push (seqObj "list" vs.toArray 0)) s1.heap.objs.size vs _).get? b = some u
  rw [sortedHeap_old (Nat.ne_of_lt hlt) (by rw [Heap.size_push]; exact Nat.lt_succ_of_lt hlt)]
  exact Heap.get?_push_of_some _ q
end
/-- sorted(set(xs)), xs a list of texts -/
def tSortD (K : PySem.W.Frag) (ta : TE) : TE := fun σ H Q => ta σ H fun x H1 => ∃ l, ∃ xs : List Str, x = .ref l ∧ SqL K H1 l (xs.map V.str) ∧ xs.length ≤ 60 ∧
  ∀ (ys : List Str) (p : Addr), ys.Perm (uniq [] xs) → sortedS ys = true → H1 p = none → Q (.ref p) (upd H1 p (.lst (ys.map V.str)))
theorem pe_sortD {X : Cx} {a : Expr} {ta : TE} {p p2 q pos : Pos} (hc : X.calm = true) (hg : Gl X "sorted") (hm : X.mg "sorted" = none) (hg2 : Gl X "set") (hm2 : X.mg "set" = none) (ha : PE X a ta)
    (na : starEach [a] X.env = (false, eval a X.env) :: starEach [] X.env := by rfl) : PE X (.Call (.Name "sorted" p) [.Call (.Name "set" p2) [a] [] q] [] pos) (tSortD X.K ta) := by
  refine ⟨fun pns s τ G Q I h => ?_⟩
  refine Call_ (ld_blt I hg hm (show bootBuiltins "sorted" = some (.builtin "sorted") by decide +kernel) (PyProof.Rows.callWith_builtin1 (PyProof.Rows.args_cons (Call_ (ld_blt I hg2 hm2 boot_set ?_)) rfl) rfl rfl))
  refine PyProof.Rows.callWith_type1 (PyProof.Rows.args_cons (thn (ha.run pns s τ G _ I h) fun v s1 ⟨x, H1, I1, r1, q1⟩ => PyProof.Rows.args_nil ?_) na) na rfl
  obtain ⟨l, xs, rfl, hq, h1, q1⟩ := q1
  cases r1
  obtain ⟨its, r, pl, hz⟩ := I1.list hq
  refine xset_list (I1.ok.hd hc) pl.isList (by simpa using strsAre_of r) h1 fun h' tk hS hk => PyProof.Rows.args_nil ?_
  have hl : its.toArray.size = xs.length := by rw [List.size_toArray, ← r.length, List.length_map]
  rw [hl, List.take_length] at hS
  have I2 : Inv X pns τ H1 { s1 with heap := h', toks := tk } := I1.kept fun b o e => hk b o (Heap.lt_size e) e
  have h64 : (uniq [] xs).length < 64 := by
    have := uniq_len xs []
    rw [List.length_nil] at this
    omega
  refine sorted_x (s := { s1 with heap := h', toks := tk }) hS (I2.ok.hd hc) h64 fun s' p out c ys k g o hp hg hi hs hm => ?_
  have hlen : (ys.map V.str).length ≤ sizeLine := by rw [List.length_map, hs.length_eq, sizeLine_eq]; omega
  have hn : H1 p = none := I2.hok.fresh hp
  have J : Inv X pns τ (upd H1 p (.lst (ys.map V.str))) { ({ s1 with heap := h', toks := tk } : Shared) with heap := s'.heap, gens := s'.gens, drawn := s'.drawn, toks := s'.toks } :=
    I2.call (ch := []) (Un.laid k hp hn) (I2.hok.laid k hp ⟨hlen, out.toList, c, vals_of_strs hi, hg⟩) (by rw [g]; exact I2.bare) (fun _ z => nomatch z)
  have e : s' = { ({ s1 with heap := h', toks := tk } : Shared) with heap := s'.heap, gens := s'.gens, drawn := s'.drawn, toks := s'.toks } := by
    cases s'
    cases s1
    cases o
    rfl
  rw [e]
  exact ⟨.ref p, _, J, rfl, q1 ys p hs hm hn⟩
end Pw

set_option Elab.async false
set_option linter.all false
set_option maxRecDepth 100000
set_option maxHeartbeats 4000000
namespace Pw
open PySem PySem.Spec PyProof.Rows L2
/-- o.m(e, .., k = v, ..): n the positional ones, the object among them -/
def tMethN (C : Addr) (m : Str) (n j : Nat) (sp : Sp) (gV : List V → List V → List V) (E : XK) (to : TE) (t tk : TA) : TE := fun σ H Q => to σ H fun x H1 => ∃ a dx fs, x = .ref a ∧ H1 a = some (.ins C dx fs) ∧ fs.lookup m = none ∧
  t σ H1 fun vs H2 => tk σ H2 fun zs H3 => (V.ref a :: vs).length = n ∧ zs.length = j ∧ sp (gV (.ref a :: vs) zs) H3 Q E
section
variable {X : Cx} {CX : CXT} {k n : Nat} {C f : Addr} {fd : FuncData} {ps ks : List Str} {sp : Sp} {E : XK} {m : Str} {apos pos : Pos} {o e : Expr} {es : List Expr} {kws : List Keyword} {to : TE} {t tk : TA} {g : List Value → List Value → List Value} {gV : List V → List V → List V} {pl : Sem Bool}
theorem pe_methN (ho : PE X o to) (c : Cls X.K C) (hm : Meth X.K C m f) (F : FnOk X.prog X.w X.K X.mg X.base CX k f fd ps sp) (hr : Room k X.A) (hb : KBn X.K fd ps n ks g gV) (hx : Passes CX X E) (ha : PA X (e :: es) t) (hkw : PK X kws tk)
    (hall : (backToKw pos (keywordEach kws X.env)).all (·.1.isSome) = true := by rfl) (hks : (backToKw pos (keywordEach kws X.env)).filterMap (·.1) = ks := by rfl) (hst : starEach (e :: es) X.env = (false, eval e X.env) :: starEach es X.env := by rfl)
    (hpl : ((backTo pos (starEach (e :: es) X.env)).any (·.1) || (backToKw pos (keywordEach kws X.env)).any (·.1.isNone)) = false := by rfl)
    (ht : eval (.Call (.Attribute o m apos) (e :: es) kws pos) X.env = (do let ov ← eval o X.env; standAt apos.atName; let (f, first) ← holding [ov] (getMethod ov m pl); callWith pos f first (backTo pos (starEach (e :: es) X.env)) (backToKw pos (keywordEach kws X.env))) := by rfl) :
    PE X (.Call (.Attribute o m apos) (e :: es) kws pos) (tMethN C m n ks.length sp gV E to t tk) := by
  refine ⟨fun pins s σ H Q I h => PySem.W.methodCall_KW (pl := pl) (thn (ho.run pins s σ H _ I h) fun u s1 ⟨x, H1, I1, rx, a, dx, fs, ex, ea, l, q⟩ => ?_) ht⟩
  subst ex
  obtain rfl : u = Value.ref a := rx
  refine getmeth_ok I1 ea c hm l (PySem.W.callWith_KW (first := [.ref a]) (h₀ := X.base) I.ok.mod.kin hm.kp hall (thn (ha.run pos pins s1 σ H1 _ I1 q) fun us s2 ⟨vs, H2, I2, r2, q2⟩ => ?_) hpl hst)
  refine thn (hkw.run pos pins s2 σ H2 _ I2 q2) fun ws s3 ⟨zs, H3, I3, r3, l1, l2, q3⟩ => ⟨I3.kIn, ?_⟩
  rw [hks]
  exact run_fnN (us := .ref a :: us) (vs := .ref a :: vs) F hr hb hx I3 (.cons rfl r2) r3 l1 l2 q3
theorem pe_methN0 (ho : PE X o to) (c : Cls X.K C) (hm : Meth X.K C m f) (F : FnOk X.prog X.w X.K X.mg X.base CX k f fd ps sp) (hr : Room k X.A) (hb : KBn X.K fd ps n ks g gV) (hx : Passes CX X E) (hkw : PK X kws tk)
    (hall : (backToKw pos (keywordEach kws X.env)).all (·.1.isSome) = true := by rfl) (hks : (backToKw pos (keywordEach kws X.env)).filterMap (·.1) = ks := by rfl)
    (hpl : ((backTo pos (starEach [] X.env)).any (·.1) || (backToKw pos (keywordEach kws X.env)).any (·.1.isNone)) = false := by rfl)
    (ht : eval (.Call (.Attribute o m apos) [] kws pos) X.env = (do let ov ← eval o X.env; standAt apos.atName; let (f, first) ← holding [ov] (getMethod ov m pl); callWith pos f first (backTo pos (starEach [] X.env)) (backToKw pos (keywordEach kws X.env))) := by rfl) :
    PE X (.Call (.Attribute o m apos) [] kws pos) (tMethN C m n ks.length sp gV E to tNil tk) := by
  refine ⟨fun pins s σ H Q I h => PySem.W.methodCall_KW (pl := pl) (thn (ho.run pins s σ H _ I h) fun u s1 ⟨x, H1, I1, rx, a, dx, fs, ex, ea, l, q⟩ => ?_) ht⟩
  subst ex
  obtain rfl : u = Value.ref a := rx
  refine getmeth_ok I1 ea c hm l (PySem.W.callWith_KW0 (first := [.ref a]) (h₀ := X.base) I.ok.mod.kin hm.kp hall (thn (hkw.run pos pins s1 σ H1 _ I1 q) fun ws s3 ⟨zs, H3, I3, r3, l1, l2, q3⟩ => ⟨I3.kIn, ?_⟩) hpl)
  rw [hks]
  exact run_fnN (us := [.ref a]) (vs := [.ref a]) F hr hb hx I3 (.cons rfl .nil) r3 l1 l2 q3
end
end Pw

set_option Elab.async false
set_option linter.all false
set_option maxRecDepth 100000
set_option maxHeartbeats 4000000
namespace K05
open PySem PySem.Spec PyProof.Rows L2 Pw TL
def topS (i : Nat) : Stmt := PySem.Challenge.pw_pulsewright_k05_rules_with_more_and_less.main.body.getD i (.Pass ⟨0, 0, 0, 0⟩)
section
variable {P : Program} {w : World} {K : PySem.W.Frag} {mg : Str → Option Value} {base : Heap}
theorem same_new {H : Hp} {p : Addr} {o : HO} (h : H p = none) : Same H (upd H p o) := fun b x e => by
  rw [upd_ne (ne_of_none e h)]
  exact e
/-! first_stranger -/
abbrev sFS : Stmt := topS 18
theorem scFS : FnScope ["text", "at", "sign"] ["text"] (defScope sFS) := ⟨rfl, rfl, rfl, by decide +kernel, rfl, by decide +kernel, by decide +kernel⟩
def vOpt : Option Nat → V
  | none => .non
  | some i => .int (i : Nat)
def spFS : Sp := fun vs H Q _ => ∃ x : Str, vs = [.str x] ∧ ∀ H', Same H H' → Q (vOpt (strange (tl x))) H'
theorem one_sign (c : Nat) : (V.str ⟨#[c]⟩ = V.str "0" ↔ c = 48) ∧ (V.str ⟨#[c]⟩ = V.str "1" ↔ c = 49) := by
  constructor
  · constructor
    · intro h
      have h1 : (⟨#[c]⟩ : Str) = "0" := V.str.inj h
      have h2 : [c] = [48] := congrArg tl h1
      exact (List.cons.inj h2).1
    · intro h
      subst h
      rfl
  · constructor
    · intro h
      have h1 : (⟨#[c]⟩ : Str) = "1" := V.str.inj h
      have h2 : [c] = [49] := congrArg tl h1
      exact (List.cons.inj h2).1
    · intro h
      subst h
      rfl
theorem ok_fs {f : Addr} {fd : FuncData} {k : Nat} (F : Fun K "first_stranger" "first_stranger" sFS f fd) (me : mg "enumerate" = none) : FnOk P w K mg base CX0 (k + 1) f fd ["text"] spFS := by
  refine F.ok scFS (fun vs H Q E h => ?_) (fun cdv A outer s H vs Q E hr h => ?_)
  · obtain ⟨x, rfl, _⟩ := h
    rfl
  · obtain ⟨x, rfl, q⟩ := h
    refine ⟨_, pss_cons (ps_for PassesOwn.never rfl (pi_enumS (by rfl) me (pa_cons (pv 0) pa_nil)) (pg_tup rfl (pgs_cons (pg_name (i := 1) scFS.nd rfl (.inl rfl)) (pgs_cons (pg_name (i := 2) scFS.nd rfl (.inl rfl)) pgs_nil)))
        (pss_one (ps_if (PW.pt (pw_and (pt_cmpR op_ne (pv 2) pe_str (nomark _)) (pw_and1 (pt_cmpR op_ne (pv 2) pe_str (nomark _))))) (pss_one (ps_ret (pv 1))) pss_nil)))
      (pss_one (ps_ret pe_non)), ?_⟩
    refine ⟨.str x, rfl, x, rfl, for_enumS (x := x) (fun i σ H1 => (∃ y1 y2, σ = [some (.str x), y1, y2]) ∧ Pure ((tl x).take i) ∧ Same H H1) ⟨⟨none, none, rfl⟩, fun c hc => by simp at hc, Same.refl H⟩ ?_ ?_⟩
    · rintro i c σ H1 T hc ⟨⟨y1, y2, rfl⟩, hp, sm⟩ nT
      have hc' : (tl x)[i]? = some c := by rw [← hc]; exact Array.getElem?_toList
      have sT : Same H (upd H1 T (.tup [.int (i : Nat), .str ⟨#[c]⟩])) := sm.trans (same_new nT)
      refine ⟨T, _, rfl, .inl (.inl upd_same), rfl, _, _, rfl, _, _, rfl, rfl, ?_⟩
      refine ⟨_, rfl, rfl, _, rfl, ?_⟩
      by_cases h0 : c = 48
      · rw [decide_eq_true ((one_sign c).1.mpr h0)]
        refine iteF (iteF ⟨⟨_, _, rfl⟩, pure_more hc' hp (by simp [bad, h0]), sT⟩)
      · rw [decide_eq_false (fun z => h0 ((one_sign c).1.mp z))]
        refine iteT ⟨_, rfl, rfl, _, rfl, ?_⟩
        by_cases h1 : c = 49
        · rw [decide_eq_true ((one_sign c).2.mpr h1)]
          exact iteF ⟨⟨_, _, rfl⟩, pure_more hc' hp (by simp [bad, h1]), sT⟩
        · rw [decide_eq_false (fun z => h1 ((one_sign c).2.mp z))]
          refine iteT ⟨_, rfl, ?_⟩
          have e := strange_take hc' hp (by simp [bad, h0, h1])
          have := q _ sT
          rw [e] at this
          exact this
    · rintro σ H1 ⟨⟨y1, y2, rfl⟩, hp, sm⟩
      have hl : (tl x).take x.cps.size = tl x := List.take_of_length_le (by simp)
      rw [hl] at hp
      have := q H1 sm
      rw [strange_none hp] at this
      exact this
end
section
variable {P : Program} {w : World} {K : PySem.W.Frag} {mg : Str → Option Value} {base : Heap}
/-! check_row -/
abbrev sCR : Stmt := topS 19
theorem scCR : FnScope ["row", "at"] ["row"] (defScope sCR) := ⟨rfl, rfl, rfl, by decide +kernel, rfl, by decide +kernel, by decide +kernel⟩
def okInt : V → Prop := fun v => ∃ i : Nat, v = .int (i : Nat) ∧ i ≤ 100000
/-- a row, or BadRow with its place -/
def rowOut (C : Addr) (x : Str) (H : Hp) (E : XK) : Prop := ∀ i : Nat, strange (tl x) = some i → ∀ d H', Same H H' → H d = none → H' d = some (.xd [("at", .int (i : Nat))]) → E (.ref C) (some d) H'
theorem rowOut.same {C : Addr} {x : Str} {H H1 : Hp} {E : XK} (h : rowOut C x H E) (s : Same H H1) : rowOut C x H1 E := fun i e d H' s' n q => h i e d H' (s.trans s') (s.free n) q
def spCR (C : Addr) : Sp := fun vs H Q E => ∃ x : Str, vs = [.str x] ∧ (tl x).length ≤ 1000 ∧ (strange (tl x) = none → ∀ H', Same H H' → Q .non H') ∧ rowOut C x H E
theorem ok_cr {f fFS C : Addr} {fd fdFS : FuncData} (F : Fun K "check_row" "check_row" sCR f fd) (G : FnOk P w K mg base CX0 1 fFS fdFS ["text"] spFS) (gm : mg "first_stranger" = some (.ref fFS)) (gk : PySem.W.keepIn K (.ref fFS) = true) (gb : Binds K fdFS ["text"] [])
    (T : ErrOk P w K mg base "BadRow" "at" C okInt) : FnOk P w K mg base (L2.CX P w) 3 f fd ["row"] (spCR C) := by
  refine F.okX scCR (fun vs H Q E h => ?_) (fun cdv A outer s H vs Q E hr h => ?_)
  · obtain ⟨x, rfl, _⟩ := h
    rfl
  · obtain ⟨x, rfl, hl, q1, q2⟩ := h
    refine ⟨_, pss_cons (ps_set (i := 1) scCR.nd rfl (.inl rfl) (pe_call G (hr.mono (by decide)) rfl gm gk gb .nil pass0 (pa_cons (pv 0) pa_nil)))
      (pss_one (ps_if (pt_cmpR op_notN (pv 1) pe_non (nomark _)) (pss_one (ps_raise rfl (takes_of rfl rfl rfl rfl) (pmk_err T hr rfl (pv 1)))) pss_nil)), ?_⟩
    refine ⟨_, rfl, x, rfl, fun H1 s1 => ?_⟩
    cases e : strange (tl x) with
    | none =>
      refine ⟨.non, rfl, rfl, _, rfl, iteF (q1 e H1 s1)⟩
    | some i =>
      refine ⟨.int (i : Nat), rfl, rfl, _, rfl, iteT ⟨.int (i : Nat), rfl, err_read ⟨i, rfl, ?_⟩ fun d H2 s2 nd e2 => ?_⟩⟩
      · have := strange_lt e
        omega
      · exact q2 i e d H2 (s1.trans s2) (s1.free nd) e2
end
section
variable {P : Program} {w : World} {K : PySem.W.Frag} {mg : Str → Option Value} {base : Heap}
/-! swings_along -/
abbrev sSA : Stmt := topS 20
theorem scSA : FnScope ["row", "here", "top", "bottom", "swings", "sign"] ["row"] (defScope sSA) := ⟨rfl, rfl, rfl, by decide +kernel, rfl, by decide +kernel, by decide +kernel⟩
def swl (l : List Nat) (n : Nat) : List Int := (List.range n).map fun i => (hiS (l.take i)).2.1 - (hiS (l.take i)).2.2
def spSA : Sp := fun vs H Q _ => ∃ x : Str, vs = [.str x] ∧ (tl x).length ≤ 1000 ∧ ∀ H' p, Same H H' → H p = none → H' p = some (.lst ((swl (tl x) ((tl x).length + 1)).map V.int)) → Q (.ref p) H'
theorem swl_snoc (l : List Nat) (n : Nat) : swl l (n + 1) = swl l n ++ [(hiS (l.take n)).2.1 - (hiS (l.take n)).2.2] := by
  unfold swl
  rw [List.range_succ, List.map_append]
  rfl
theorem same_put {H H1 : Hp} {p : Addr} {o : HO} (s : Same H H1) (n : H p = none) : Same H (upd H1 p o) := fun b x e => by
  rw [upd_ne (ne_of_none e n)]
  exact s b x e
theorem ok_sa {f : Addr} {fd : FuncData} {k : Nat} (F : Fun K "swings_along" "swings_along" sSA f fd) (mmax : mg "max" = none) (mmin : mg "min" = none) : FnOk P w K mg base CX0 (k + 1) f fd ["row"] spSA := by
  refine F.ok scSA (fun vs H Q E h => ?_) (fun cdv A outer s H vs Q E hr h => ?_)
  · obtain ⟨x, rfl, _⟩ := h
    rfl
  · obtain ⟨x, rfl, hlen, q⟩ := h
    refine ⟨_, pss_cons (ps_asg3 pe_int (pg_name (i := 1) scSA.nd rfl (.inl rfl)) (pg_name (i := 2) scSA.nd rfl (.inl rfl)) (pg_name (i := 3) scSA.nd rfl (.inl rfl)))
      (pss_cons (ps_set (i := 4) scSA.nd rfl (.inl rfl) (pe_lst (pa_cons pe_int pa_nil)))
      (pss_cons (ps_for PassesOwn.never rfl (pi_str (pv 0)) (pg_name (i := 5) scSA.nd rfl (.inl rfl))
        (pss_cons (ps_aug (i := 1) scSA.nd rfl (.inl rfl) (pe_ifExp (pt_cmpR op_eq (pv 5) pe_str (nomark _)) pe_int (pe_un un_neg pe_int)) ip_add)
        (pss_cons (ps_set (i := 2) scSA.nd rfl (.inl rfl) (pe_callB (call_max2 rfl) (by rfl) mmax (by decide +kernel) (pa_cons (pv 2) (pa_cons (pv 1) pa_nil))))
        (pss_cons (ps_set (i := 3) scSA.nd rfl (.inl rfl) (pe_callB (call_min2 rfl) (by rfl) mmin (by decide +kernel) (pa_cons (pv 3) (pa_cons (pv 1) pa_nil))))
        (pss_one (ps_expr (pe_bm PySem.F.plainAttrs_list PySem.F.slot_list_append PySem.F.type_list_append mt_append (pv 4) (pa_cons (pe_op op_sub (pv 2) (pv 3)) pa_nil))))))))
      (pss_one (ps_ret (pv 4))))), ?_⟩
    refine ⟨by show 1 ≤ sizeLine; decide, fun p np => ?_⟩
    refine ⟨.str x, rfl, x, rfl, for_str (x := x) (fun i σ H1 => (∃ y, σ = [some (.str x), some (.int (hiS ((tl x).take i)).1), some (.int (hiS ((tl x).take i)).2.1), some (.int (hiS ((tl x).take i)).2.2), some (.ref p), y]) ∧ i ≤ (tl x).length ∧ Same H H1 ∧ H1 p = some (.lst ((swl (tl x) (i + 1)).map V.int)))
      ⟨⟨none, rfl⟩, Nat.zero_le _, same_new np, upd_same⟩ ?_ ?_⟩
    · rintro i c σ H1 hc ⟨⟨y, rfl⟩, hi, sm, hp⟩
      have hc' : (tl x)[i]? = some c := by rw [← hc]; exact Array.getElem?_toList
      have hil : i < (tl x).length := (List.getElem?_eq_some_iff.mp hc').1
      have e := hiS_snoc ((tl x).take i) c
      rw [← take_snoc hc'] at e
      refine ⟨_, rfl, _, rfl, rfl, _, rfl, ?_⟩
      have hz : ((swl (tl x) (i + 1)).map V.int).length < sizeLine := by
        rw [List.length_map]
        unfold swl
        rw [List.length_map, List.length_range]
        exact small1000 (by omega)
      by_cases h1 : c = 49
      · rw [decide_eq_true ((one_sign c).2.mpr h1)]
        refine iteT ⟨_, _, rfl, rfl, ?_⟩
        refine ⟨_, rfl, _, rfl, _, _, rfl, _, rfl, _, rfl, _, _, rfl, .ref p, rfl, .inl ⟨rfl, _, SqL.of hp⟩, _, rfl, _, rfl, _, _, rfl, rfl, p, _, _, rfl, rfl, hp, hz, ?_⟩
        unfold Pw.step at e
        simp only [if_pos h1] at e
        refine ⟨⟨some (V.str ⟨#[c]⟩), ?_⟩, hil, same_put sm np, ?_⟩
        · rw [e]
          rfl
        · rw [upd_same, swl_snoc (tl x) (i + 1), e, List.map_append]
          rfl
      · rw [decide_eq_false (fun z => h1 ((one_sign c).2.mp z))]
        refine iteF ⟨1, rfl, _, _, rfl, rfl, ?_⟩
        refine ⟨_, rfl, _, rfl, _, _, rfl, _, rfl, _, rfl, _, _, rfl, .ref p, rfl, .inl ⟨rfl, _, SqL.of hp⟩, _, rfl, _, rfl, _, _, rfl, rfl, p, _, _, rfl, rfl, hp, hz, ?_⟩
        unfold Pw.step at e
        simp only [if_neg h1] at e
        refine ⟨⟨some (V.str ⟨#[c]⟩), ?_⟩, hil, same_put sm np, ?_⟩
        · rw [e]
          rfl
        · rw [upd_same, swl_snoc (tl x) (i + 1), e, List.map_append]
          rfl
    · rintro σ H1 ⟨⟨y, rfl⟩, hi, sm, hp⟩
      have e : x.cps.size = (tl x).length := by simp
      rw [e] at hp
      exact ⟨_, rfl, q H1 p sm np hp⟩
end
end K05

set_option Elab.async false
set_option linter.all false
set_option maxRecDepth 100000
set_option maxHeartbeats 4000000
namespace K05
open PySem PySem.Spec PyProof.Rows L2 Pw TL
section
variable {P : Program} {w : World} {K : PySem.W.Frag} {mg : Str → Option Value} {base : Heap}
/-- a module's number -/
def Num (mg : Str → Option Value) (x : Str) (n : Int) : Prop := ∃ u, mg x = some u ∧ RelV (.int n) u
/-! is_word -/
abbrev sIW : Stmt := topS 27
theorem scIW : FnScope ["text"] ["text"] (defScope sIW) := ⟨rfl, rfl, rfl, by decide +kernel, rfl, by decide +kernel, by decide +kernel⟩
def wordB (x : Str) : Bool := decide (1 ≤ (tl x).length ∧ (tl x).length ≤ 5) && (strange (tl x)).isNone
def spIW : Sp := fun vs H Q _ => ∃ x : Str, vs = [.str x] ∧ (tl x).length ≤ 1000 ∧ ∀ H', Same H H' → Q (.bl (wordB x)) H'
theorem vOpt_non (o : Option Nat) : decide (vOpt o = .non) = o.isNone := by
  cases o with
  | none => rfl
  | some i => rfl
theorem ok_iw {f fFS : Addr} {fd fdFS : FuncData} (F : Fun K "is_word" "is_word" sIW f fd) (G : FnOk P w K mg base CX0 1 fFS fdFS ["text"] spFS) (gm : mg "first_stranger" = some (.ref fFS)) (gk : PySem.W.keepIn K (.ref fFS) = true) (gb : Binds K fdFS ["text"] [])
    (ml : mg "len" = none) (N5 : Num mg "LONGEST_WORD" 5) : FnOk P w K mg base CX0 2 f fd ["text"] spIW := by
  obtain ⟨u5, m5, r5⟩ := N5
  refine F.ok scIW (fun vs H Q E h => ?_) (fun cdv A outer s H vs Q E hr h => ?_)
  · obtain ⟨x, rfl, _⟩ := h
    rfl
  · obtain ⟨x, rfl, hl, q⟩ := h
    have hz : x.length ≤ sizeLine := by
      rw [len_tl]
      exact Nat.le_of_lt (small1000 hl)
    refine ⟨_, pss_one (ps_ret (pe_and (pe_chain op_le op_le pe_int (pe_callB call_len_str (by rfl) ml PySem.boot_len (pa_cons (pv 0) pa_nil)) (pe_glob rfl m5 r5))
      (pe_one (pe_cmpR op_isN (pe_call G hr rfl gm gk gb .nil pass0 (pa_cons (pv 0) pa_nil)) pe_non (nomark _))))), ?_⟩
    refine ⟨_, rfl, x, rfl, hz, _, _, rfl, rfl, _, rfl, ?_⟩
    by_cases h1 : (1 : Int) ≤ (x.length : Nat)
    · rw [decide_eq_true h1]
      refine iteT ⟨_, _, rfl, rfl, _, rfl, ?_⟩
      by_cases h5 : ((x.length : Nat) : Int) ≤ 5
      · rw [decide_eq_true h5]
        refine iteT ⟨_, rfl, x, rfl, fun H1 s1 => ⟨rfl, ?_⟩⟩
        have := q H1 s1
        have e : wordB x = (strange (tl x)).isNone := by
          unfold wordB
          rw [decide_eq_true (show 1 ≤ (tl x).length ∧ (tl x).length ≤ 5 by rw [← len_tl]; omega), Bool.true_and]
        rw [e] at this
        rw [vOpt_non]
        exact this
      · rw [decide_eq_false h5]
        refine iteF ?_
        have := q H (Same.refl H)
        have e : wordB x = false := by
          unfold wordB
          rw [decide_eq_false (show ¬ (1 ≤ (tl x).length ∧ (tl x).length ≤ 5) by rw [← len_tl]; omega), Bool.false_and]
        rw [e] at this
        exact this
    · rw [decide_eq_false h1]
      refine iteF ⟨_, rfl, iteF ?_⟩
      have := q H (Same.refl H)
      have e : wordB x = false := by
        unfold wordB
        rw [decide_eq_false (show ¬ (1 ≤ (tl x).length ∧ (tl x).length ≤ 5) by rw [← len_tl]; omega), Bool.false_and]
      rw [e] at this
      exact this
/-! are_words -/
abbrev sAW : Stmt := topS 28
theorem scAW : FnScope ["texts", "text"] ["texts"] (defScope sAW) := ⟨rfl, rfl, rfl, by decide +kernel, rfl, by decide +kernel, by decide +kernel⟩
def wordsB (xs : List Str) : Bool := decide (xs.length ≤ 6) && decide (cntD xs = xs.length) && xs.all wordB
def spAW : Sp := fun vs H Q _ => ∃ (l : Addr) (xs : List Str), vs = [.ref l] ∧ H l = some (.lst (xs.map V.str)) ∧ xs.length ≤ 60 ∧ (∀ x ∈ xs, (tl x).length ≤ 1000) ∧ ∀ H', Same H H' → Q (.bl (wordsB xs)) H'
theorem ok_aw {f fIW : Addr} {fd fdIW : FuncData} (F : Fun K "are_words" "are_words" sAW f fd) (G : FnOk P w K mg base CX0 2 fIW fdIW ["text"] spIW) (gm : mg "is_word" = some (.ref fIW)) (gk : PySem.W.keepIn K (.ref fIW) = true) (gb : Binds K fdIW ["text"] [])
    (ml : mg "len" = none) (ms : mg "set" = none) (ma : mg "all" = none) (N6 : Num mg "MOST_WORDS" 6) : FnOk P w K mg base CX0 3 f fd ["texts"] spAW := by
  obtain ⟨u6, m6, r6⟩ := N6
  refine F.ok scAW (fun vs H Q E h => ?_) (fun cdv A outer s H vs Q E hr h => ?_)
  · obtain ⟨l, xs, rfl, _⟩ := h
    rfl
  · obtain ⟨l, xs, rfl, hl, h60, hx, q⟩ := h
    refine ⟨_, pss_cons (ps_if (PW.pt (pw_or (pt_cmpR op_gt (pe_callB call_len_seq (by rfl) ml PySem.boot_len (pa_cons (pv 0) pa_nil)) (pe_glob rfl m6 r6) (nomark _)) (pw_or1 (pt_cmpR op_lt (pe_lenD rfl (by rfl) ml (by rfl) ms (pv 0)) (pe_callB call_len_seq (by rfl) ml PySem.boot_len (pa_cons (pv 0) pa_nil)) (nomark _))))) (pss_one (ps_ret pe_bl)) pss_nil)
      (pss_one (ps_ret (pe_callB (cr_all rfl) (by rfl) ma (by decide +kernel) (pa_cons (pe_lc (own := [("text", 1)]) (g := gName 1) (tt := tYes) rfl scAW.nd (pi_list (pv 0))
        (blkOk_by (N := ["texts", "text"]) (sc := defScope sAW) (by decide +kernel)) (fun _ _ _ _ _ => pg_name (i := 1) scAW.nd rfl (Or.inl rfl)) (fun _ _ _ _ _ => pts_nil)
        (fun _ _ _ _ _ => pe_call G hr rfl gm gk gb .nil pass0 (pa_cons (pv 1) pa_nil))) pa_nil)))), ?_⟩
    have sq : SqL K H l (xs.map V.str) := SqL.of hl
    have hlen : (xs.map V.str).length = xs.length := List.length_map ..
    have hcl := cntD_le xs
    refine ⟨_, rfl, l, _, rfl, .inl sq, _, _, rfl, rfl, _, rfl, ?_⟩
    rw [hlen]
    by_cases h6 : (6 : Int) < (xs.length : Nat)
    · rw [decide_eq_true h6]
      refine iteT (iteT ?_)
      have := q H (Same.refl H)
      have e : wordsB xs = false := by
        unfold wordsB
        rw [decide_eq_false (by omega), Bool.false_and, Bool.false_and]
      rw [e] at this
      exact this
    · rw [decide_eq_false h6]
      refine iteF ⟨_, rfl, l, xs, rfl, .inl sq, h60, _, rfl, l, _, rfl, .inl sq, _, _, rfl, rfl, _, rfl, ?_⟩
      rw [hlen]
      by_cases hd : ((cntD xs : Nat) : Int) < (xs.length : Nat)
      · rw [decide_eq_true hd]
        refine iteT ?_
        have := q H (Same.refl H)
        have e : wordsB xs = false := by
          unfold wordsB
          rw [decide_eq_false (p := cntD xs = xs.length) (by omega), Bool.and_false, Bool.false_and]
        rw [e] at this
        exact this
      · rw [decide_eq_false hd]
        refine iteF ?_
        have e : wordsB xs = xs.all wordB := by
          unfold wordsB
          rw [decide_eq_true (p := xs.length ≤ 6) (by omega), decide_eq_true (p := cntD xs = xs.length) (by omega), Bool.true_and, Bool.true_and]
        refine ⟨_, rfl, l, rfl, ⟨_, sq⟩, fun D nD => ?_⟩
        have eD : l ≠ D := ne_of_none hl nD
        refine lc_list (K := K) (a := l) (xs := xs.map V.str) (fun i H2 => Same H H2 ∧ H2 D = some (.lst (((xs.map wordB).take i).map V.bl)))
          ⟨same_new nD, upd_same⟩ (fun i H2 _ h => SqL.of (h.1 _ _ hl)) (fun i v H2 hv h => ?_) (fun H2 h => ?_)
        · obtain ⟨s2, h3⟩ := h
          rw [List.getElem?_map] at hv
          cases hz : xs[i]? with
          | none =>
            rw [hz] at hv
            cases hv
          | some z =>
            rw [hz] at hv
            obtain rfl : V.str z = v := Option.some.inj hv
            have hg : (xs.map wordB)[i]? = some (wordB z) := by
              rw [List.getElem?_map, hz]
              rfl
            refine ⟨rfl, _, rfl, z, rfl, hx z (List.mem_of_getElem? hz), fun H3 s3 => ⟨_, s3 _ _ h3, ?_, ?_, ?_⟩⟩
            · rw [List.length_map, List.length_take, List.length_map]
              exact Nat.lt_of_le_of_lt (Nat.min_le_right _ _) (small1000 (by omega))
            · exact same_put (s2.trans s3) nD
            · rw [upd_same, List.take_add_one, hg, List.map_append]
              rfl
        · obtain ⟨s2, h3⟩ := h
          rw [hlen, ← List.length_map (f := wordB), List.take_length] at h3
          refine ⟨D, xs.map wordB, rfl, SqL.of h3, ?_⟩
          have := q H2 s2
          rw [e] at this
          rw [List.all_map]
          exact this
end
section
variable {P : Program} {w : World} {K : PySem.W.Frag} {mg : Str → Option Value} {base : Heap}
/-! check_parts -/
abbrev sCP : Stmt := topS 29
theorem scCP : FnScope ["words", "low", "high", "span"] ["words", "low", "high", "span"] (defScope sCP) := ⟨rfl, rfl, rfl, by decide +kernel, rfl, by decide +kernel, by decide +kernel⟩
def vI : Option Int → V
  | none => .non
  | some i => .int i
def okStr : V → Prop := fun v => ∃ s : Str, v = .str s ∧ (tl s).length ≤ 10
def lowB (lo : Int) : Bool := decide (0 ≤ lo ∧ lo ≤ 3)
def highB (lo : Int) : Option Int → Bool
  | none => true
  | some h => decide (max 1 lo ≤ h ∧ h ≤ 7)
def spanB : Option Int → Bool
  | none => true
  | some h => decide (1 ≤ h ∧ h ≤ 4)
/-- the first part that no rule has -/
def partBad (xs : List Str) (lo : Int) (hi sp : Option Int) : Option Str :=
  if wordsB xs = true then (if lowB lo = true then (if highB lo hi = true then (if spanB sp = true then none else some (Str.ofString "span")) else some (Str.ofString "high")) else some (Str.ofString "low")) else some (Str.ofString "words")
/-- BadRule with its part -/
def partOut (C : Addr) (p : Option Str) (H : Hp) (E : XK) : Prop := ∀ s : Str, p = some s → ∀ d H', Same H H' → H d = none → H' d = some (.xd [("part", .str s)]) → E (.ref C) (some d) H'
def spCP (C : Addr) : Sp := fun vs H Q E => ∃ (l : Addr) (xs : List Str) (lo : Int) (hi sp : Option Int), vs = [.ref l, .int lo, vI hi, vI sp] ∧ H l = some (.lst (xs.map V.str)) ∧ xs.length ≤ 60 ∧ (∀ x ∈ xs, (tl x).length ≤ 1000) ∧
  (partBad xs lo hi sp = none → ∀ H', Same H H' → Q .non H') ∧ partOut C (partBad xs lo hi sp) H E
theorem max_if (a b : Int) : (if b > a then b else a) = max a b := by
  by_cases h : b > a
  · rw [if_pos h]
    omega
  · rw [if_neg h]
    omega
theorem ok_cp {f fAW C : Addr} {fd fdAW : FuncData} (F : Fun K "check_parts" "check_parts" sCP f fd) (G : FnOk P w K mg base CX0 3 fAW fdAW ["texts"] spAW) (gm : mg "are_words" = some (.ref fAW)) (gk : PySem.W.keepIn K (.ref fAW) = true) (gb : Binds K fdAW ["texts"] [])
    (mm : mg "max" = none) (NL : Num mg "GREATEST_LOW" 3) (NH : Num mg "GREATEST_HIGH" 7) (NS : Num mg "GREATEST_SPAN" 4) (T : ErrOk P w K mg base "BadRule" "part" C okStr) : FnOk P w K mg base (L2.CX P w) 4 f fd ["words", "low", "high", "span"] (spCP C) := by
  obtain ⟨uL, mL, rL⟩ := NL
  obtain ⟨uH, mH, rH⟩ := NH
  obtain ⟨uS, mS, rS⟩ := NS
  refine F.okX scCP (fun vs H Q E h => ?_) (fun cdv A outer s H vs Q E hr h => ?_)
  · obtain ⟨l, xs, lo, hi, sp, rfl, _⟩ := h
    rfl
  · obtain ⟨l, xs, lo, hi, sp, rfl, hl, h60, hx, q1, q2⟩ := h
    refine ⟨_, pss_cons (ps_if (pt_not (pt_val (pe_call G hr rfl gm gk gb .nil pass0 (pa_cons (pv 0) pa_nil)))) (pss_one (ps_raise rfl (takes_of rfl rfl rfl rfl) (pmk_err T (hr.mono (by decide)) rfl pe_str))) pss_nil)
      (pss_cons (ps_if (pt_not (pt_chain op_le op_le pe_int (pv 1) (pe_glob rfl mL rL))) (pss_one (ps_raise rfl (takes_of rfl rfl rfl rfl) (pmk_err T (hr.mono (by decide)) rfl pe_str))) pss_nil)
      (pss_cons (ps_if (PW.pt (pw_and (pt_cmpR op_notN (pv 2) pe_non (nomark _)) (pw_and1 (pt_not (pt_chain op_le op_le (pe_callB (call_max2 rfl) (by rfl) mm (by decide +kernel) (pa_cons pe_int (pa_cons (pv 1) pa_nil))) (pv 2) (pe_glob rfl mH rH)))))) (pss_one (ps_raise rfl (takes_of rfl rfl rfl rfl) (pmk_err T (hr.mono (by decide)) rfl pe_str))) pss_nil)
      (pss_one (ps_if (PW.pt (pw_and (pt_cmpR op_notN (pv 3) pe_non (nomark _)) (pw_and1 (pt_not (pt_chain op_le op_le pe_int (pv 3) (pe_glob rfl mS rS)))))) (pss_one (ps_raise rfl (takes_of rfl rfl rfl rfl) (pmk_err T (hr.mono (by decide)) rfl pe_str))) pss_nil)))), ?_⟩
    refine ⟨_, rfl, l, xs, rfl, hl, h60, hx, fun H1 s1 => ⟨_, rfl, ?_⟩⟩
    have q1' : partBad xs lo hi sp = none → Q .non H1 := fun e => q1 e H1 s1
    have q2' : ∀ s : Str, partBad xs lo hi sp = some s → ∀ d H', Same H1 H' → H1 d = none → H' d = some (.xd [("part", .str s)]) → E (.ref C) (some d) H' := fun s e d H' s2 n e2 => q2 s e d H' (s1.trans s2) (s1.free n) e2
    clear q1 q2
    unfold partBad at q1' q2'
    cases hw : wordsB xs with
    | false =>
      refine iteT (err_read ⟨_, rfl, by decide⟩ fun d H2 s2 nd e2 => ?_)
      rw [if_neg (by rw [hw]; decide)] at q2'
      exact q2' _ rfl d H2 s2 nd e2
    | true =>
      rw [if_pos hw] at q1' q2'
      refine iteF ⟨_, rfl, _, _, rfl, rfl, _, rfl, ?_⟩
      have bad1 : lowB lo = false → ∀ d H2, Same H1 H2 → H1 d = none → H2 d = some (.xd [("part", .str (Str.ofString "low"))]) → E (.ref C) (some d) H2 := fun e d H2 s2 nd e2 => by
        rw [if_neg (by rw [e]; decide)] at q2'
        exact q2' _ rfl d H2 s2 nd e2
      by_cases h0 : (0 : Int) ≤ lo
      · rw [decide_eq_true h0]
        refine iteT ⟨_, _, rfl, rfl, _, rfl, ?_⟩
        by_cases h3 : lo ≤ 3
        · rw [decide_eq_true h3]
          have hlo : lowB lo = true := decide_eq_true ⟨h0, h3⟩
          rw [if_pos hlo] at q1' q2'
          refine iteF ?_
          clear bad1
          have hS : highB lo hi = true → (spanB sp = true → Q .non H1) ∧ (spanB sp = false → ∀ d H2, Same H1 H2 → H1 d = none → H2 d = some (.xd [("part", .str (Str.ofString "span"))]) → E (.ref C) (some d) H2) := fun c => by
            rw [if_pos c] at q1' q2'
            refine ⟨fun z => q1' (if_pos z), fun z d H2 s2 nd e2 => ?_⟩
            rw [if_neg (by rw [z]; decide)] at q2'
            exact q2' _ rfl d H2 s2 nd e2
          have hB : highB lo hi = false → ∀ d H2, Same H1 H2 → H1 d = none → H2 d = some (.xd [("part", .str (Str.ofString "high"))]) → E (.ref C) (some d) H2 := fun z d H2 s2 nd e2 => by
            rw [if_neg (by rw [z]; decide)] at q2'
            exact q2' _ rfl d H2 s2 nd e2
          clear q1' q2'
          cases hi with
          | none =>
            refine ⟨.non, rfl, rfl, _, rfl, iteF (iteF ?_)⟩
            obtain ⟨s1', s2'⟩ := hS rfl
            cases sp with
            | none =>
              exact ⟨.non, rfl, rfl, _, rfl, iteF (iteF (s1' rfl))⟩
            | some k =>
              refine ⟨.int k, rfl, rfl, _, rfl, iteT ⟨_, rfl, _, _, rfl, rfl, _, rfl, ?_⟩⟩
              by_cases k1 : (1 : Int) ≤ k
              · rw [decide_eq_true k1]
                refine iteT ⟨_, _, rfl, rfl, _, rfl, ?_⟩
                by_cases k4 : k ≤ 4
                · rw [decide_eq_true k4]
                  exact iteF (s1' (decide_eq_true ⟨k1, k4⟩))
                · rw [decide_eq_false k4]
                  exact iteT (err_read ⟨_, rfl, by decide⟩ fun d H2 s2 nd e2 => s2' (decide_eq_false (fun z => k4 z.2)) d H2 s2 nd e2)
              · rw [decide_eq_false k1]
                exact iteF ⟨_, rfl, iteT (err_read ⟨_, rfl, by decide⟩ fun d H2 s2 nd e2 => s2' (decide_eq_false (fun z => k1 z.1)) d H2 s2 nd e2)⟩
          | some g =>
            refine ⟨.int g, rfl, rfl, _, rfl, iteT ⟨_, rfl, _, _, rfl, _, rfl, _, _, rfl, rfl, _, rfl, ?_⟩⟩
            rw [max_if]
            by_cases g1 : max 1 lo ≤ g
            · rw [decide_eq_true g1]
              refine iteT ⟨_, _, rfl, rfl, _, rfl, ?_⟩
              by_cases g7 : g ≤ 7
              · rw [decide_eq_true g7]
                refine iteF ?_
                obtain ⟨s1', s2'⟩ := hS (decide_eq_true ⟨g1, g7⟩)
                cases sp with
                | none =>
                  exact ⟨.non, rfl, rfl, _, rfl, iteF (iteF (s1' rfl))⟩
                | some k =>
                  refine ⟨.int k, rfl, rfl, _, rfl, iteT ⟨_, rfl, _, _, rfl, rfl, _, rfl, ?_⟩⟩
                  by_cases k1 : (1 : Int) ≤ k
                  · rw [decide_eq_true k1]
                    refine iteT ⟨_, _, rfl, rfl, _, rfl, ?_⟩
                    by_cases k4 : k ≤ 4
                    · rw [decide_eq_true k4]
                      exact iteF (s1' (decide_eq_true ⟨k1, k4⟩))
                    · rw [decide_eq_false k4]
                      exact iteT (err_read ⟨_, rfl, by decide⟩ fun d H2 s2 nd e2 => s2' (decide_eq_false (fun z => k4 z.2)) d H2 s2 nd e2)
                  · rw [decide_eq_false k1]
                    exact iteF ⟨_, rfl, iteT (err_read ⟨_, rfl, by decide⟩ fun d H2 s2 nd e2 => s2' (decide_eq_false (fun z => k1 z.1)) d H2 s2 nd e2)⟩
              · rw [decide_eq_false g7]
                exact iteT (err_read ⟨_, rfl, by decide⟩ fun d H2 s2 nd e2 => hB (decide_eq_false (fun z => g7 z.2)) d H2 s2 nd e2)
            · rw [decide_eq_false g1]
              exact iteF ⟨_, rfl, iteT (err_read ⟨_, rfl, by decide⟩ fun d H2 s2 nd e2 => hB (decide_eq_false (fun z => g1 z.1)) d H2 s2 nd e2)⟩
        · rw [decide_eq_false h3]
          refine iteT (err_read ⟨_, rfl, by decide⟩ fun d H2 s2 nd e2 => bad1 (decide_eq_false (fun z => h3 z.2)) d H2 s2 nd e2)
      · rw [decide_eq_false h0]
        refine iteF ⟨_, rfl, iteT (err_read ⟨_, rfl, by decide⟩ fun d H2 s2 nd e2 => bad1 (decide_eq_false (fun z => h0 z.1)) d H2 s2 nd e2)⟩
end
end K05

set_option Elab.async false
set_option linter.all false
set_option maxRecDepth 100000
set_option maxHeartbeats 4000000
namespace K05
open PySem PySem.Spec PyProof.Rows L2 Pw TL
section
variable {P : Program} {w : World} {K : PySem.W.Frag} {mg : Str → Option Value} {base : Heap}
/-! Rule.__init__ -/
abbrev sRI : Stmt := inClass (topS 35) 0
theorem scRI : FnScope ["self", "words", "low", "high", "span", "given"] ["self", "words", "low", "high", "span"] (defScope sRI) := ⟨rfl, rfl, rfl, by decide +kernel, rfl, by decide +kernel, by decide +kernel⟩
/-- what the program says of the class Rule -/
structure RuleC (K : PySem.W.Frag) (R : Addr) : Prop where
  c : Cls K R
  n1 : NoAttr K R "barred"
  n2 : NoAttr K R "least_gap"
  n3 : NoAttr K R "most_idle"
  n4 : NoAttr K R "most_swing"
def fsR (p : Addr) (lo : Int) (hi sp : Option Int) : List (Str × V) := [("barred", .ref p), ("least_gap", .int lo), ("most_idle", vI hi), ("most_swing", vI sp)]
/-- a rule at r, its words' list at p -/
def RuleAt (H : Hp) (R r p : Addr) (ys : List Str) (lo : Int) (hi sp : Option Int) : Prop := ∃ dx, H r = some (.ins R dx (fsR p lo hi sp)) ∧ H p = some (.lst (ys.map V.str))
theorem RuleAt.same {H H1 : Hp} {R r p : Addr} {ys : List Str} {lo : Int} {hi sp : Option Int} (h : RuleAt H R r p ys lo hi sp) (s : Same H H1) : RuleAt H1 R r p ys lo hi sp := by
  obtain ⟨dx, h1, h2⟩ := h
  exact ⟨dx, s _ _ h1, s _ _ h2⟩
/-- what is handed in as words -/
def wordsIn (H : Hp) (v : V) (xs : List Str) : Prop := (v = .non ∧ xs = []) ∨ ∃ l, v = .ref l ∧ H l = some (.lst (xs.map V.str))
def spRI (R C : Addr) : Sp := fun vs H Q E => ∃ (a dx : Addr) (wv : V) (xs : List Str) (lo : Int) (hi sp : Option Int), vs = [.ref a, wv, .int lo, vI hi, vI sp] ∧ H a = some (.ins R dx []) ∧ wordsIn H wv xs ∧ xs.length ≤ 60 ∧ (∀ x ∈ xs, (tl x).length ≤ 1000) ∧
  (partBad xs lo hi sp = none → ∀ ys p H', ys.Perm xs → sortedS ys = true → H p = none → (∀ b o, b ≠ a → H b = some o → H' b = some o) → RuleAt H' R a p ys lo hi sp → Q .non H') ∧ partOut C (partBad xs lo hi sp) H E
theorem ok_ri {f fCP C R : Addr} {fd fdCP : FuncData} {ds : List V} (F : FunD K "__init__" "Rule.__init__" (defArgs sRI) (defBody sRI) (defScope sRI) ds [] f fd) (G : FnOk P w K mg base (L2.CX P w) 4 fCP fdCP ["words", "low", "high", "span"] (spCP C)) (gm : mg "check_parts" = some (.ref fCP)) (gk : PySem.W.keepIn K (.ref fCP) = true) (gb : Binds K fdCP ["words", "low", "high", "span"] [])
    (ms : mg "sorted" = none) (T : RuleC K R) : FnOk P w K mg base (L2.CX P w) 5 f fd ["self", "words", "low", "high", "span"] (spRI R C) := by
  refine F.ok scRI (fun vs H Q E h => ?_) (fun cdv A outer s H vs Q E hr h => ?_)
  · obtain ⟨a, dx, wv, xs, lo, hi, sp, rfl, _⟩ := h
    rfl
  · obtain ⟨a, dx, wv, xs, lo, hi, sp, rfl, ha, hw, h60, hx, q1, q2⟩ := h
    refine ⟨_, pss_cons (ps_set (i := 5) scRI.nd rfl (.inl rfl) (pe_ifExp (pt_cmpR op_isN (pv 1) pe_non (nomark _)) (pe_lst pa_nil) (pv 1)))
      (pss_cons (ps_expr (pe_call (E := E) G hr rfl gm gk gb .nil (passes_call (takes_of rfl rfl rfl rfl) (fun _ _ _ _ z => z)) (pa_cons (pv 5) (pa_cons (pv 2) (pa_cons (pv 3) (pa_cons (pv 4) pa_nil))))))
      (pss_cons (ps_fld (pv 0) (pe_callB cr_sortedS (by rfl) ms (by decide +kernel) (pa_cons (pv 5) pa_nil)) rfl)
      (pss_cons (ps_fld (pv 0) (pv 2) rfl)
      (pss_cons (ps_fld (pv 0) (pv 3) rfl)
      (pss_one (ps_fld (pv 0) (pv 4) rfl)))))), ?_⟩
    rcases hw with ⟨rfl, rfl⟩ | ⟨l, rfl, hl⟩
    · refine ⟨.non, rfl, rfl, _, rfl, iteT ⟨by show 0 ≤ sizeLine; decide, fun l nl => ?_⟩⟩
      have s0 : Same H (upd H l (.lst [])) := same_new nl
      refine ⟨_, rfl, _, rfl, _, rfl, _, rfl, l, [], lo, hi, sp, rfl, upd_same, h60, hx, fun e H1 s1 => ?_, fun s e d H' s2 n e2 => q2 s e d H' (s0.trans s2) (s0.free n) e2⟩
      have hl1 : H1 l = some (.lst (([] : List Str).map V.str)) := s1 _ _ upd_same
      have ha1 : H1 a = some (.ins R dx []) := (s0.trans s1) _ _ ha
      refine ⟨_, rfl, l, [], rfl, SqL.of hl1, by decide, fun ys p hp hs np => ?_⟩
      have npH : H p = none := (s0.trans s1).free np
      have nea : a ≠ p := ne_of_none ha1 np
      refine ⟨_, rfl, a, R, dx, [], rfl, by rw [upd_ne nea]; exact ha1, T.c, T.n1, by decide, ?_⟩
      refine ⟨_, rfl, _, rfl, a, R, dx, _, rfl, upd_same, T.c, T.n2, by show (1 : Nat) < 1000; decide, ?_⟩
      refine ⟨_, rfl, _, rfl, a, R, dx, _, rfl, upd_same, T.c, T.n3, by show (2 : Nat) < 1000; decide, ?_⟩
      refine ⟨_, rfl, _, rfl, a, R, dx, _, rfl, upd_same, T.c, T.n4, by show (3 : Nat) < 1000; decide, ?_⟩
      refine q1 e ys p _ hp hs npH (fun b o hb hbo => ?_) ⟨dx, upd_same, ?_⟩
      · rw [upd_ne hb, upd_ne hb, upd_ne hb, upd_ne hb, upd_ne (ne_of_none hbo npH)]
        exact (s0.trans s1) _ _ hbo
      · rw [upd_ne nea.symm, upd_ne nea.symm, upd_ne nea.symm, upd_ne nea.symm, upd_same]
    · have nn : decide (V.ref l = V.non) = false := rfl
      refine ⟨.ref l, rfl, rfl, _, rfl, ?_⟩
      rw [nn]
      refine iteF ⟨_, rfl, ?_⟩
      refine ⟨_, rfl, _, rfl, _, rfl, _, rfl, l, xs, lo, hi, sp, rfl, hl, h60, hx, fun e H1 s1 => ?_, q2⟩
      have hl1 : H1 l = some (.lst (xs.map V.str)) := s1 _ _ hl
      have ha1 : H1 a = some (.ins R dx []) := s1 _ _ ha
      refine ⟨_, rfl, l, xs, rfl, SqL.of hl1, by omega, fun ys p hp hs np => ?_⟩
      have npH : H p = none := s1.free np
      have nea : a ≠ p := ne_of_none ha1 np
      refine ⟨_, rfl, a, R, dx, [], rfl, by rw [upd_ne nea]; exact ha1, T.c, T.n1, by decide, ?_⟩
      refine ⟨_, rfl, _, rfl, a, R, dx, _, rfl, upd_same, T.c, T.n2, by show (1 : Nat) < 1000; decide, ?_⟩
      refine ⟨_, rfl, _, rfl, a, R, dx, _, rfl, upd_same, T.c, T.n3, by show (2 : Nat) < 1000; decide, ?_⟩
      refine ⟨_, rfl, _, rfl, a, R, dx, _, rfl, upd_same, T.c, T.n4, by show (3 : Nat) < 1000; decide, ?_⟩
      refine q1 e ys p _ hp hs npH (fun b o hb hbo => ?_) ⟨dx, upd_same, ?_⟩
      · rw [upd_ne hb, upd_ne hb, upd_ne hb, upd_ne hb, upd_ne (ne_of_none hbo npH)]
        exact s1 _ _ hbo
      · rw [upd_ne nea.symm, upd_ne nea.symm, upd_ne nea.symm, upd_ne nea.symm, upd_same]
/-! what a rule tells of itself -/
abbrev sMW : Stmt := inClass (topS 35) 1
abbrev sML : Stmt := inClass (topS 35) 2
abbrev sMH : Stmt := inClass (topS 35) 3
abbrev sMS : Stmt := inClass (topS 35) 4
theorem scMW : FnScope ["self"] ["self"] (defScope sMW) := ⟨rfl, rfl, rfl, by decide +kernel, rfl, by decide +kernel, by decide +kernel⟩
theorem scML : FnScope ["self"] ["self"] (defScope sML) := ⟨rfl, rfl, rfl, by decide +kernel, rfl, by decide +kernel, by decide +kernel⟩
theorem scMH : FnScope ["self"] ["self"] (defScope sMH) := ⟨rfl, rfl, rfl, by decide +kernel, rfl, by decide +kernel, by decide +kernel⟩
theorem scMS : FnScope ["self"] ["self"] (defScope sMS) := ⟨rfl, rfl, rfl, by decide +kernel, rfl, by decide +kernel, by decide +kernel⟩
def spMW (R : Addr) : Sp := fun vs H Q _ => ∃ (r p : Addr) (ys : List Str) (lo : Int) (hi sp : Option Int), vs = [.ref r] ∧ RuleAt H R r p ys lo hi sp ∧ ∀ l, H l = none → Q (.ref l) (upd H l (.lst (ys.map V.str)))
def spMO (R : Addr) (g : Int → Option Int → Option Int → V) : Sp := fun vs H Q _ => ∃ (r p : Addr) (ys : List Str) (lo : Int) (hi sp : Option Int), vs = [.ref r] ∧ RuleAt H R r p ys lo hi sp ∧ Q (g lo hi sp) H
theorem ok_mw {f R : Addr} {fd : FuncData} {k : Nat} (F : Fun K "words" "Rule.words" sMW f fd) (T : RuleC K R) (ml : mg "list" = none) : FnOk P w K mg base CX0 (k + 1) f fd ["self"] (spMW R) := by
  refine F.ok scMW (fun vs H Q E h => ?_) (fun cdv A outer s H vs Q E hr h => ?_)
  · obtain ⟨r, p, ys, lo, hi, sp, rfl, _⟩ := h
    rfl
  · obtain ⟨r, p, ys, lo, hi, sp, rfl, ⟨dx, h1, h2⟩, q⟩ := h
    refine ⟨_, pss_one (ps_ret (pe_callTy call_list_of (by rfl) ml (by decide +kernel) (pa_cons (pe_fld (pv 0) rfl) pa_nil))), ?_⟩
    exact ⟨_, rfl, r, R, dx, _, .ref p, rfl, h1, T.c, T.n1, rfl, p, _, rfl, .inl (SqL.of h2), q⟩
theorem ok_ml {f R : Addr} {fd : FuncData} {k : Nat} (F : Fun K "low" "Rule.low" sML f fd) (T : RuleC K R) : FnOk P w K mg base CX0 (k + 1) f fd ["self"] (spMO R fun lo _ _ => .int lo) := by
  refine F.ok scML (fun vs H Q E h => ?_) (fun cdv A outer s H vs Q E hr h => ?_)
  · obtain ⟨r, p, ys, lo, hi, sp, rfl, _⟩ := h
    rfl
  · obtain ⟨r, p, ys, lo, hi, sp, rfl, ⟨dx, h1, h2⟩, q⟩ := h
    exact ⟨_, pss_one (ps_ret (pe_fld (pv 0) rfl)), _, rfl, r, R, dx, _, _, rfl, h1, T.c, T.n2, rfl, q⟩
theorem ok_mh {f R : Addr} {fd : FuncData} {k : Nat} (F : Fun K "high" "Rule.high" sMH f fd) (T : RuleC K R) : FnOk P w K mg base CX0 (k + 1) f fd ["self"] (spMO R fun _ hi _ => vI hi) := by
  refine F.ok scMH (fun vs H Q E h => ?_) (fun cdv A outer s H vs Q E hr h => ?_)
  · obtain ⟨r, p, ys, lo, hi, sp, rfl, _⟩ := h
    rfl
  · obtain ⟨r, p, ys, lo, hi, sp, rfl, ⟨dx, h1, h2⟩, q⟩ := h
    exact ⟨_, pss_one (ps_ret (pe_fld (pv 0) rfl)), _, rfl, r, R, dx, _, _, rfl, h1, T.c, T.n3, rfl, q⟩
theorem ok_ms {f R : Addr} {fd : FuncData} {k : Nat} (F : Fun K "span" "Rule.span" sMS f fd) (T : RuleC K R) : FnOk P w K mg base CX0 (k + 1) f fd ["self"] (spMO R fun _ _ sp => vI sp) := by
  refine F.ok scMS (fun vs H Q E h => ?_) (fun cdv A outer s H vs Q E hr h => ?_)
  · obtain ⟨r, p, ys, lo, hi, sp, rfl, _⟩ := h
    rfl
  · obtain ⟨r, p, ys, lo, hi, sp, rfl, ⟨dx, h1, h2⟩, q⟩ := h
    exact ⟨_, pss_one (ps_ret (pe_fld (pv 0) rfl)), _, rfl, r, R, dx, _, _, rfl, h1, T.c, T.n4, rfl, q⟩
end
end K05

set_option Elab.async false
set_option linter.all false
set_option maxRecDepth 100000
set_option maxHeartbeats 4000000
namespace K05
open PySem PySem.Spec PyProof.Rows L2 Pw TL
section
variable {P : Program} {w : World} {K : PySem.W.Frag} {mg : Str → Option Value} {base : Heap}
theorem vI_vO (o : Option Int) : vI o = vO o := by cases o <;> rfl
theorem vI_vOpt (o : Option Nat) : vOpt o = vI (o.map fun (n : Nat) => (n : Int)) := by cases o <;> rfl
/-! end_of_first -/
abbrev sEF : Stmt := topS 30
theorem scEF : FnScope ["row", "piece", "at"] ["row", "piece"] (defScope sEF) := ⟨rfl, rfl, rfl, by decide +kernel, rfl, by decide +kernel, by decide +kernel⟩
def spEF : Sp := fun vs H Q _ => ∃ (x y : Str), vs = [.str x, .str y] ∧ tl y ≠ [] ∧ (tl y).length ≤ 1000 ∧ Q (vOpt (fEnd (tl x) (tl y))) H
theorem ok_ef {f : Addr} {fd : FuncData} {k : Nat} (F : Fun K "end_of_first" "end_of_first" sEF f fd) (ml : mg "len" = none) : FnOk P w K mg base CX0 (k + 1) f fd ["row", "piece"] spEF := by
  refine F.ok scEF (fun vs H Q E h => ?_) (fun cdv A outer s H vs Q E hr h => ?_)
  · obtain ⟨x, y, rfl, _⟩ := h
    rfl
  · obtain ⟨x, y, rfl, hy, hl, q⟩ := h
    have hz : y.length ≤ sizeLine := by
      rw [len_tl]
      exact Nat.le_of_lt (small1000 hl)
    refine ⟨_, pss_cons (ps_set (i := 2) scEF.nd rfl (.inl rfl) (pe_m1 PySem.F.slot_str_find PySem.F.type_str_find mt_find (pv 0) (pv 1)))
      (pss_one (ps_ret (pe_ifExp (pt_cmpR op_lt (pv 2) pe_int (nomark _)) pe_non (pe_op op_add (pv 2) (pe_callB call_len_str (by rfl) ml PySem.boot_len (pa_cons (pv 1) pa_nil)))))), ?_⟩
    refine ⟨.str x, rfl, ⟨x, rfl⟩, .str y, rfl, x, y, rfl, rfl, ?_⟩
    refine ⟨_, rfl, _, _, rfl, rfl, _, rfl, ?_⟩
    rcases find_end (x := x) hy with ⟨h1, h2⟩ | ⟨i, h1, h2⟩
    · rw [decide_eq_true h1]
      refine iteT ?_
      rw [h2] at q
      exact q
    · rw [decide_eq_false (by omega)]
      refine iteF ⟨_, rfl, _, rfl, y, rfl, hz, _, _, rfl, rfl, ?_⟩
      rw [h2] at q
      rw [h1, len_tl]
      exact q
/-! end_beyond_span -/
abbrev sEB : Stmt := topS 31
theorem scEB : FnScope ["row", "span", "signs", "width"] ["row", "span"] (defScope sEB) := ⟨rfl, rfl, rfl, by decide +kernel, rfl, by decide +kernel, by decide +kernel⟩
def spEB : Sp := fun vs H Q _ => ∃ (x : Str) (wd : Option Int), vs = [.str x, vI wd] ∧ (tl x).length ≤ 1000 ∧ ∀ H', Same H H' → Q (vOpt (spanEnd (tl x) wd)) H'
theorem swl_at {l : List Nat} {n i : Nat} {v : V} (h : ((swl l n).map V.int)[i]? = some v) : i < n ∧ v = .int (wid (l.take i)) := by
  unfold swl at h
  rw [List.getElem?_map, List.getElem?_map] at h
  cases e : (List.range n)[i]? with
  | none =>
    rw [e] at h
    cases h
  | some j =>
    rw [e] at h
    obtain ⟨h1, h2⟩ := List.getElem?_eq_some_iff.mp e
    rw [List.length_range] at h1
    rw [List.getElem_range] at h2
    subst h2
    exact ⟨h1, (Option.some.inj h).symm⟩
theorem ok_eb {f fS : Addr} {fd fdS : FuncData} (F : Fun K "end_beyond_span" "end_beyond_span" sEB f fd) (me : mg "enumerate" = none) (GS : FnOk P w K mg base CX0 1 fS fdS ["row"] spSA) (sm : mg "swings_along" = some (.ref fS)) (sk : PySem.W.keepIn K (.ref fS) = true) (sb : Binds K fdS ["row"] []) :
    FnOk P w K mg base CX0 2 f fd ["row", "span"] spEB := by
  refine F.ok scEB (fun vs H Q E h => ?_) (fun cdv A outer s H vs Q E hr h => ?_)
  · obtain ⟨x, wd, rfl, _⟩ := h
    rfl
  · obtain ⟨x, wd, rfl, hl, q⟩ := h
    refine ⟨_, pss_cons (ps_if (pt_cmpR op_isN (pv 1) pe_non (nomark _)) (pss_one (ps_ret pe_non)) pss_nil)
      (pss_cons (ps_for PassesOwn.never rfl (pi_enum (by rfl) me (pa_cons (pe_call GS hr rfl sm sk sb .nil pass0 (pa_cons (pv 0) pa_nil)) pa_nil)) (pg_tup rfl (pgs_cons (pg_name (i := 2) scEB.nd rfl (.inl rfl)) (pgs_cons (pg_name (i := 3) scEB.nd rfl (.inl rfl)) pgs_nil)))
        (pss_one (ps_if (pt_cmpR op_gt (pv 3) (pv 1) (nomark _)) (pss_one (ps_ret (pv 2))) pss_nil)))
      (pss_one (ps_ret pe_non))), ?_⟩
    cases wd with
    | none => exact ⟨.non, rfl, rfl, _, rfl, iteT (q H (Same.refl H))⟩
    | some sp =>
      refine ⟨.int sp, rfl, rfl, _, rfl, iteF ?_⟩
      refine ⟨_, rfl, x, rfl, hl, fun H1 p s1 np hp => ⟨p, _, rfl, SqL.of hp, ?_⟩⟩
      have hS : SqL K H1 p ((swl (tl x) ((tl x).length + 1)).map V.int) := SqL.of hp
      have hlen : ((swl (tl x) ((tl x).length + 1)).map V.int).length = (tl x).length + 1 := by
        rw [List.length_map]
        unfold swl
        rw [List.length_map, List.length_range]
      refine for_enumL (K := K) (a := p) (xs := (swl (tl x) ((tl x).length + 1)).map V.int) (fun i σ H2 => (∃ y2 y3, σ = [some (.str x), some (.int sp), y2, y3]) ∧ Same H1 H2 ∧ ∀ j, j < i → ¬ sp < wid ((tl x).take j))
        ⟨⟨none, none, rfl⟩, Same.refl H1, fun j hj => absurd hj (Nat.not_lt_zero _)⟩ (fun i σ H2 _ h => h.2.1.seq hS) (fun i v σ H2 T hv h nT => ?_) (fun σ H2 h => ?_)
      · obtain ⟨⟨y2, y3, rfl⟩, s2, hb⟩ := h
        obtain ⟨hi, rfl⟩ := swl_at hv
        have s3 : Same H1 (upd H2 T (.tup [.int (i : Nat), .int (wid ((tl x).take i))])) := s2.trans (same_new nT)
        refine ⟨T, _, rfl, .inl (.inl upd_same), rfl, _, _, rfl, _, _, rfl, rfl, ?_⟩
        refine ⟨_, rfl, _, rfl, _, _, rfl, rfl, _, rfl, ?_⟩
        by_cases hw : sp < wid ((tl x).take i)
        · rw [decide_eq_true hw]
          refine iteT ⟨_, rfl, ?_⟩
          have e : spanEnd (tl x) (some sp) = some i := by
            show (List.range ((tl x).length + 1)).find? (fun i => decide (sp < wid ((tl x).take i))) = some i
            refine List.find?_range_eq_some.mpr ⟨decide_eq_true hw, List.mem_range.mpr hi, fun j hj => ?_⟩
            rw [decide_eq_false (hb j hj)]
            rfl
          have := q _ (s1.trans s3)
          rw [e] at this
          exact this
        · rw [decide_eq_false hw]
          refine iteF ⟨⟨_, _, rfl⟩, s3, fun j hj => ?_⟩
          by_cases e : j = i
          · subst e
            exact hw
          · exact hb j (by omega)
      · obtain ⟨⟨y2, y3, rfl⟩, s2, hb⟩ := h
        rw [hlen] at hb
        have e : spanEnd (tl x) (some sp) = none := by
          show (List.range ((tl x).length + 1)).find? (fun i => decide (sp < wid ((tl x).take i))) = none
          refine List.find?_eq_none.mpr fun j hj => ?_
          rw [decide_eq_false (hb j (List.mem_range.mp hj))]
          decide
        have := q H2 (s1.trans s2)
        rw [e] at this
        exact this
end
end K05

set_option Elab.async false
set_option linter.all false
set_option maxRecDepth 100000
set_option maxHeartbeats 4000000
namespace K05
open PySem PySem.Spec PyProof.Rows L2 Pw TL
section
variable {P : Program} {w : World} {K : PySem.W.Frag} {mg : Str → Option Value} {base : Heap}
/-- the bounds that every rule keeps -/
structure Bnd (lo : Int) (hi : Option Int) : Prop where
  l0 : 0 ≤ lo
  l3 : lo ≤ 3
  h0 : ∀ h, hi = some h → 0 ≤ h
  h7 : ∀ h, hi = some h → h ≤ 7
def longP : Option Int → List (List Nat)
  | none => []
  | some h => [zerosL (h + 1).toNat]
theorem piecesL_eq (xs : List Str) (lo : Int) (hi : Option Int) : piecesL xs lo hi = xs.map tl ++ (List.range lo.toNat).map gapW ++ longP hi := by cases hi <;> rfl
/-- check_row as its callers have it -/
structure CROk (P : Program) (w : World) (K : PySem.W.Frag) (mg : Str → Option Value) (base : Heap) (C : Addr) : Prop where
  ex : ∃ (f : Addr) (fd : FuncData), FnOk P w K mg base (L2.CX P w) 3 f fd ["row"] (spCR C) ∧ mg "check_row" = some (.ref f) ∧ PySem.W.keepIn K (.ref f) = true ∧ Binds K fd ["row"] []
/-! Rule.barred_pieces -/
abbrev sBP : Stmt := inClass (topS 35) 5
theorem scBP : FnScope ["self", "short_gaps", "long_idles", "many"] ["self"] (defScope sBP) := ⟨rfl, rfl, rfl, by decide +kernel, rfl, by decide +kernel, by decide +kernel⟩
def spBP (R : Addr) : Sp := fun vs H Q _ => ∃ (r p : Addr) (ys : List Str) (lo : Int) (hi sp : Option Int), vs = [.ref r] ∧ RuleAt H R r p ys lo hi sp ∧ Bnd lo hi ∧ ys.length ≤ 60 ∧
  ∀ (l : Addr) (zs : List Str) (H' : Hp), Same H H' → H l = none → H' l = some (.lst (zs.map V.str)) → zs.map tl = piecesL ys lo hi → Q (.ref l) H'
def gapS (m : Nat) : Str := (Str.ofString "1" ++ Txt.mul (Str.ofString "0") (m : Int)) ++ Str.ofString "1"
theorem tl_gapS (m : Nat) : tl (gapS m) = gapW m := by
  unfold gapS
  rw [tl_append, tl_append, show Txt.mul (Str.ofString "0") (m : Int) = Txt.mul ⟨#[48]⟩ (m : Int) from rfl, tl_mul]
  rfl
theorem len_gap0 (m : Nat) : (Txt.mul (Str.ofString "0") (m : Int)).length = m := by
  rw [len_tl, show Txt.mul (Str.ofString "0") (m : Int) = Txt.mul ⟨#[48]⟩ (m : Int) from rfl, tl_mul, List.length_replicate]
theorem ok_bp {f R : Addr} {fd : FuncData} {k : Nat} (F : Fun K "barred_pieces" "Rule.barred_pieces" sBP f fd) (T : RuleC K R) (mr : mg "range" = none) : FnOk P w K mg base CX0 (k + 1) f fd ["self"] (spBP R) := by
  refine F.ok scBP (fun vs H Q E h => ?_) (fun cdv A outer s H vs Q E hr h => ?_)
  · obtain ⟨r, p, ys, lo, hi, sp, rfl, _⟩ := h
    rfl
  · obtain ⟨r, p, ys, lo, hi, sp, rfl, hR, hB, h60, q⟩ := h
    refine ⟨_, pss_cons (ps_setLc (i := 1) (own := [("many", 3)]) (g := gName 3) rfl scBP.nd rfl rfl (sw_true rfl rfl rfl (by decide +kernel)) (pi_range1 rfl mr (pa_cons (pe_fld (pv 0) rfl) pa_nil))
        (blkOk_by (N := ["self", "short_gaps", "long_idles", "many"]) (sc := defScope sBP) (by decide +kernel)) (fun _ _ _ _ _ => pg_name (i := 3) scBP.nd rfl (Or.inl rfl)) (fun _ _ _ _ _ => pts_nil)
        (fun _ _ _ _ _ => pe_op op_add_str (pe_op op_add_str pe_str (pe_op op_mulS pe_str (pv 3))) pe_str))
      (C8.pss_cut (ps_set (i := 2) scBP.nd rfl (.inl rfl) (pe_ifExp (pt_cmpR op_isN (pe_fld (pv 0) rfl) pe_non (nomark _)) (pe_lst pa_nil) (pe_lst (pa_cons (pe_op op_mulS pe_str (pe_op op_add (pe_fld (pv 0) rfl) pe_int)) pa_nil))))
      (pss_one (ps_ret (pe_op op_cat (pe_op op_cat (pe_fld (pv 0) rfl) (pv 1)) (pv 2))))), ?_⟩
    obtain ⟨dx, h1, h2⟩ := id hR
    have l0 := hB.l0
    have l3 := hB.l3
    have elo : lo = ((lo.toNat : Nat) : Int) := by omega
    refine ⟨_, rfl, r, R, dx, _, .int lo, rfl, h1, T.c, T.n2, rfl, lo, rfl, by omega, by omega, fun D nD => ?_⟩
    refine lc_range (lo := 0) (n := lo.toNat) (fun i H2 => Same H H2 ∧ H2 D = some (.lst (((List.range i).map gapS).map V.str))) ⟨same_new nD, upd_same⟩ (fun i H2 hi2 h => ?_) (fun H2 h => ?_)
    · obtain ⟨s2, h3⟩ := h
      have e0 : (0 + (i : Int)) = ((i : Nat) : Int) := Int.zero_add _
      refine ⟨rfl, _, rfl, Str.ofString "0", i, rfl, by rw [e0], by decide, by omega, ?_⟩
      refine ⟨_, _, rfl, rfl, ?_, _, _, rfl, rfl, ?_, _, h3, ?_, same_put s2 nD, ?_⟩
      · rw [len_gap0]
        exact Nat.le_trans (Nat.add_le_add (by decide : _ ≤ 1) (by omega : i ≤ 10)) (by decide)
      · rw [len_tl, tl_append, List.length_append, ← len_tl, ← len_tl, len_gap0]
        exact Nat.le_trans (Nat.add_le_add_right (Nat.add_le_add (by decide : _ ≤ 1) (by omega : i ≤ 10)) 1) (by decide)
      · rw [List.length_map, List.length_map, List.length_range]
        exact small1000 (by omega)
      · rw [upd_same, List.range_succ, List.map_append, List.map_append]
        rfl
    · obtain ⟨s2, h3⟩ := h
      refine ⟨fun σ H3 => ∃ (l2 : Addr) (zs : List Str), σ = [some (.ref r), some (.ref D), some (.ref l2), none] ∧ Same H2 H3 ∧ H3 l2 = some (.lst (zs.map V.str)) ∧ zs.length ≤ 1 ∧ zs.map tl = longP hi, ?_, ?_⟩
      · cases hi with
        | none =>
          refine ⟨_, rfl, r, R, dx, _, .non, rfl, s2 _ _ h1, T.c, T.n3, rfl, rfl, _, rfl, iteT ⟨by show 0 ≤ sizeLine; decide, fun l2 n2 => ?_⟩⟩
          exact ⟨l2, [], rfl, same_new n2, upd_same, Nat.zero_le _, rfl⟩
        | some h =>
          have g0 := hB.h0 h rfl
          have g7 := hB.h7 h rfl
          have eh : h + 1 = (((h + 1).toNat : Nat) : Int) := by omega
          refine ⟨_, rfl, r, R, dx, _, .int h, rfl, s2 _ _ h1, T.c, T.n3, rfl, rfl, _, rfl, iteF ?_⟩
          refine ⟨_, rfl, r, R, dx, _, .int h, rfl, s2 _ _ h1, T.c, T.n3, rfl, h, 1, rfl, rfl, Str.ofString "0", (h + 1).toNat, rfl, by rw [← eh], by decide, by omega, by show 1 ≤ sizeLine; decide, fun l2 n2 => ?_⟩
          refine ⟨l2, [Txt.mul (Str.ofString "0") (((h + 1).toNat : Nat) : Int)], rfl, same_new n2, upd_same, Nat.le_refl _, ?_⟩
          show [tl (Txt.mul ⟨#[48]⟩ (((h + 1).toNat : Nat) : Int))] = _
          rw [tl_mul]
          rfl
      · rintro _ H3 ⟨l2, zs, rfl, s3, h4, z1, ez⟩
        have s23 := s2.trans s3
        refine ⟨_, rfl, r, R, dx, _, .ref p, rfl, s23 _ _ h1, T.c, T.n1, rfl, _, rfl, p, D, _, _, rfl, rfl, s23 _ _ h2, s3 _ _ h3, ?_, fun l5 n5 => ?_⟩
        · rw [List.length_map, List.length_map, List.length_map, List.length_range]
          exact Nat.le_trans (by omega : _ ≤ 100) (by decide)
        have s5 := s3.trans (same_new (o := .lst (ys.map V.str ++ ((List.range lo.toNat).map gapS).map V.str)) n5)
        refine ⟨_, rfl, l5, l2, _, _, rfl, rfl, upd_same, same_new n5 _ _ h4, ?_, fun l6 n6 => ?_⟩
        · rw [List.length_append, List.length_map, List.length_map, List.length_map, List.length_map, List.length_range]
          exact Nat.le_trans (by omega : _ ≤ 100) (by decide)
        have s6 := s5.trans (same_new (o := .lst ((ys.map V.str ++ ((List.range lo.toNat).map gapS).map V.str) ++ zs.map V.str)) n6)
        refine q l6 (ys ++ (List.range lo.toNat).map gapS ++ zs) _ (s2.trans s6) ((s2.trans s5).free n6) ?_ ?_
        · rw [upd_same, List.map_append, List.map_append]
        · rw [piecesL_eq, List.map_append, List.map_append, ez, List.map_map]
          congr 2
          refine List.map_congr_left fun m _ => ?_
          exact tl_gapS m
/-! Rule.fault, Rule.lets -/
abbrev sFT : Stmt := inClass (topS 35) 7
theorem scFT : FnScope ["self", "row", "ends", "piece", "end"] ["self", "row"] (defScope sFT) := ⟨rfl, rfl, rfl, by decide +kernel, rfl, by decide +kernel, by decide +kernel⟩
/-- words as a rule has them -/
def Words (ys : List Str) : Prop := ys.length ≤ 6 ∧ ∀ y ∈ ys, tl y ≠ [] ∧ (tl y).length ≤ 5
def spFT (R C : Addr) (g : Option Int → V) : Sp := fun vs H Q E => ∃ (r p : Addr) (ys : List Str) (lo : Int) (hi sp : Option Int) (x : Str), vs = [.ref r, .str x] ∧ RuleAt H R r p ys lo hi sp ∧ Bnd lo hi ∧ Words ys ∧ (tl x).length ≤ 1000 ∧
  (strange (tl x) = none → ∀ o H', MinOf o (somesI (endsL ys lo hi sp (tl x))) → Same H H' → Q (g o) H') ∧ rowOut C x H E
theorem piece_len {ys : List Str} {lo : Int} {hi : Option Int} (hB : Bnd lo hi) (hW : Words ys) : ∀ u ∈ piecesL ys lo hi, u ≠ [] ∧ u.length ≤ 1000 := fun u hu => by
  refine ⟨pieces_ne (fun y hy => (hW.2 y hy).1) hB.h0 u hu, ?_⟩
  unfold piecesL at hu
  rcases List.mem_append.mp hu with h | h
  · rcases List.mem_append.mp h with h | h
    · obtain ⟨y, h1, h2⟩ := List.mem_map.mp h
      have := (hW.2 y h1).2
      rw [← h2]
      omega
    · obtain ⟨m, h1, h2⟩ := List.mem_map.mp h
      have h3 := List.mem_range.mp h1
      have := hB.l3
      rw [← h2]
      unfold gapW zerosL
      rw [List.length_cons, List.length_append, List.length_replicate]
      show m + 1 + 1 ≤ 1000
      omega
  · cases hi with
    | none => cases h
    | some g =>
      have g7 := hB.h7 g rfl
      rw [List.mem_singleton.mp h]
      unfold zerosL
      rw [List.length_replicate]
      omega
theorem pieces_few {ys : List Str} {lo : Int} {hi : Option Int} (hB : Bnd lo hi) (hW : Words ys) : (piecesL ys lo hi).length ≤ 20 := by
  have h1 := hW.1
  have h2 := hB.l3
  unfold piecesL
  rw [List.length_append, List.length_append, List.length_map, List.length_map, List.length_range]
  cases hi with
  | none => show _ + 0 ≤ 20; omega
  | some g => show _ + 1 ≤ 20; omega
theorem ok_ft {f R C fP fE fS : Addr} {fd fdP fdE fdS : FuncData} (F : Fun K "fault" "Rule.fault" sFT f fd) (T : RuleC K R) (RC : CROk P w K mg base C) (mm : mg "min" = none)
    (GP : FnOk P w K mg base CX0 1 fP fdP ["self"] (spBP R)) (pm : Meth K R "barred_pieces" fP) (pb : Binds K fdP ["self"] [])
    (GE : FnOk P w K mg base CX0 1 fE fdE ["row", "piece"] spEF) (em : mg "end_of_first" = some (.ref fE)) (ek : PySem.W.keepIn K (.ref fE) = true) (eb : Binds K fdE ["row", "piece"] [])
    (GS : FnOk P w K mg base CX0 2 fS fdS ["row", "span"] spEB) (sm : mg "end_beyond_span" = some (.ref fS)) (sk : PySem.W.keepIn K (.ref fS) = true) (sb : Binds K fdS ["row", "span"] []) :
    FnOk P w K mg base (L2.CX P w) 4 f fd ["self", "row"] (spFT R C vI) := by
  obtain ⟨fR, fdR, G, gm, gk, gb⟩ := RC.ex
  refine F.okX scFT (fun vs H Q E h => ?_) (fun cdv A outer s H vs Q E hr h => ?_)
  · obtain ⟨r, p, ys, lo, hi, sp, x, rfl, _⟩ := h
    rfl
  · obtain ⟨r, p, ys, lo, hi, sp, x, rfl, hR, hB, hW, hl, q1, q2⟩ := h
    have r1 : Room 1 _ := hr.mono (by decide)
    have r2 : Room 2 _ := hr.mono (by decide)
    refine ⟨_, pss_cons (ps_expr (pe_call (E := E) G hr rfl gm gk gb .nil (passes_call (takes_of rfl rfl rfl rfl) (fun _ _ _ _ z => z)) (pa_cons (pv 1) pa_nil)))
      (pss_cons (ps_setLc (i := 2) (own := [("piece", 3)]) (g := gName 3) rfl scFT.nd rfl rfl (sw_true rfl rfl rfl (by decide +kernel)) (pi_list (pe_meth0 (pv 0) T.c pm GP r1 pb .nil pass0))
        (blkOk_by (N := ["self", "row", "ends", "piece", "end"]) (sc := defScope sFT) (by decide +kernel)) (fun _ _ _ _ _ => pg_name (i := 3) scFT.nd rfl (Or.inl rfl)) (fun _ _ _ _ _ => pts_nil)
        (fun _ _ _ _ _ => pe_call GE r1 rfl em ek eb .nil pass0 (pa_cons (pv 1) (pa_cons (pv 3) pa_nil))))
      (pss_cons (ps_expr (pe_bm PySem.F.plainAttrs_list PySem.F.slot_list_append PySem.F.type_list_append mt_append (pv 2) (pa_cons (pe_call GS r2 rfl sm sk sb .nil pass0 (pa_cons (pv 1) (pa_cons (pe_fld (pv 0) rfl) pa_nil))) pa_nil)))
      (pss_one (ps_ret (pe_callBK (crk_min rfl hr.units) (by rfl) mm (by decide +kernel) (pa_cons (pe_lc (own := [("end", 4)]) (g := gName 4) rfl scFT.nd (pi_list (pv 2))
        (blkOk_by (N := ["self", "row", "ends", "piece", "end"]) (sc := defScope sFT) (by decide +kernel)) (fun _ _ _ _ _ => pg_name (i := 4) scFT.nd rfl (Or.inl rfl)) (fun _ _ _ _ _ => pts_one (pt_cmpR op_notN (pv 4) pe_non (nomark _)))
        (fun _ _ _ _ _ => pv 4)) pa_nil) (pk_cons pe_non pk_nil)))))), ?_⟩
    refine ⟨_, rfl, x, rfl, hl, fun e H1 s1 => ?_, q2⟩
    have hR1 := hR.same s1
    obtain ⟨dx, h1, h2⟩ := id hR1
    refine ⟨.ref r, rfl, r, dx, _, rfl, h1, rfl, r, p, ys, lo, hi, sp, rfl, hR1, hB, ?_, fun l zs H2 s2 nl hl2 ez => ?_⟩
    · have := hW.1
      omega
    have hzs : ∀ z ∈ zs, tl z ≠ [] ∧ (tl z).length ≤ 1000 := fun z hz => piece_len hB hW (tl z) (by rw [← ez]; exact List.mem_map.mpr ⟨z, hz, rfl⟩)
    have hzl : zs.length ≤ 20 := by
      have := pieces_few hB hW
      rw [← ez, List.length_map] at this
      exact this
    refine ⟨l, rfl, ⟨_, SqL.of hl2⟩, fun D nD => ?_⟩
    have eD : l ≠ D := ne_of_none hl2 nD
    refine lc_list (K := K) (a := l) (xs := zs.map V.str) (fun i H3 => Same H2 H3 ∧ H3 D = some (.lst (((zs.map fun z => fEnd (tl x) (tl z)).take i).map vOpt)))
      ⟨same_new nD, upd_same⟩ (fun i H3 _ h => SqL.of (h.1 _ _ hl2)) (fun i v H3 hv h => ?_) (fun H3 h => ?_)
    · obtain ⟨s3, h3⟩ := h
      rw [List.getElem?_map] at hv
      cases hz : zs[i]? with
      | none =>
        rw [hz] at hv
        cases hv
      | some z =>
        rw [hz] at hv
        obtain rfl : V.str z = v := Option.some.inj hv
        have hg : (zs.map fun z => fEnd (tl x) (tl z))[i]? = some (fEnd (tl x) (tl z)) := by
          rw [List.getElem?_map, hz]
          rfl
        obtain ⟨a1, a2⟩ := hzs z (List.mem_of_getElem? hz)
        refine ⟨rfl, _, rfl, _, rfl, x, z, rfl, a1, a2, _, h3, ?_, same_put s3 nD, ?_⟩
        · rw [List.length_map, List.length_take, List.length_map]
          exact Nat.lt_of_le_of_lt (Nat.min_le_right _ _) (small1000 (by omega))
        · rw [upd_same, List.take_add_one, hg, List.map_append]
          rfl
    · obtain ⟨s3, h3⟩ := h
      rw [List.length_map, ← List.length_map (f := fun z => fEnd (tl x) (tl z)), List.take_length] at h3
      have s13 := s2.trans s3
      refine ⟨.ref D, rfl, .inl ⟨rfl, _, SqL.of h3⟩, _, rfl, _, rfl, r, R, dx, _, vI sp, rfl, s13 _ _ h1, T.c, T.n4, rfl, x, sp, rfl, hl, fun H4 s4 => ?_⟩
      have h4 := s4 _ _ h3
      refine ⟨D, _, _, rfl, rfl, h4, ?_, ?_⟩
      · rw [List.length_map, List.length_map]
        exact small1000 (by omega)
      have eE : ((zs.map fun z => fEnd (tl x) (tl z)).map vOpt) ++ [vOpt (spanEnd (tl x) sp)] = (endsL ys lo hi sp (tl x)).map vOpt := by
        unfold endsL
        rw [List.map_append, ← ez, List.map_map, List.map_map, List.map_map]
        rfl
      rw [eE]
      have hlen : (endsL ys lo hi sp (tl x)).length ≤ 21 := by
        unfold endsL
        rw [List.length_append, List.length_map]
        have := pieces_few hB hW
        show _ + 1 ≤ 21
        omega
      have nD1 : H1 D = none := s2.free nD
      have s5 : Same H1 (upd H4 D (.lst ((endsL ys lo hi sp (tl x)).map vOpt))) := same_put (s13.trans s4) nD1
      refine ⟨.ref D, rfl, D, rfl, ⟨_, SqL.of upd_same⟩, fun M nM => ?_⟩
      have eM : D ≠ M := ne_of_none upd_same nM
      refine lc_list (K := K) (a := D) (xs := (endsL ys lo hi sp (tl x)).map vOpt) (fun i H5 => Same (upd H4 D (.lst ((endsL ys lo hi sp (tl x)).map vOpt))) H5 ∧ H5 M = some (.lst ((somesI ((endsL ys lo hi sp (tl x)).take i)).map V.int)))
        ⟨same_new nM, upd_same⟩ (fun i H5 _ h => SqL.of (h.1 _ _ upd_same)) (fun i v H5 hv h => ?_) (fun H5 h => ?_)
      · obtain ⟨s6, h6⟩ := h
        rw [List.getElem?_map] at hv
        cases hz : (endsL ys lo hi sp (tl x))[i]? with
        | none =>
          rw [hz] at hv
          cases hv
        | some z =>
          rw [hz] at hv
          obtain rfl : vOpt z = v := Option.some.inj hv
          have hi5 : i < (endsL ys lo hi sp (tl x)).length := (List.getElem?_eq_some_iff.mp hz).1
          cases z with
          | none =>
            refine ⟨rfl, .non, rfl, rfl, _, rfl, iteF ⟨s6, ?_⟩⟩
            rw [List.take_add_one, hz, show (some none : Option (Option Nat)).toList = [none] from rfl]
            unfold somesI at h6 ⊢
            rw [List.filterMap_append]
            show H5 M = some (.lst (((List.filterMap id (List.take i (endsL ys lo hi sp (tl x))) ++ []).map _).map V.int))
            rw [List.append_nil]
            exact h6
          | some e5 =>
            refine ⟨rfl, .int (e5 : Nat), rfl, rfl, _, rfl, iteT ⟨_, rfl, _, h6, ?_, same_put s6 nM, ?_⟩⟩
            · unfold somesI
              rw [List.length_map, List.length_map]
              refine Nat.lt_of_le_of_lt (Nat.le_trans (List.length_filterMap_le _ _) ?_) (small1000 (n := 21) (by decide))
              rw [List.length_take]
              omega
            · rw [upd_same, List.take_add_one, hz, show (some (some e5) : Option (Option Nat)).toList = [some e5] from rfl]
              unfold somesI
              rw [List.filterMap_append, List.map_append, List.map_append]
              rfl
      · obtain ⟨s6, h6⟩ := h
        rw [List.length_map, List.take_length] at h6
        refine ⟨M, _, rfl, rfl, SqL.of h6, fun o ho => ?_⟩
        rw [← vI_vO]
        exact q1 e o H5 ho (s1.trans (s5.trans s6))
abbrev sLT : Stmt := inClass (topS 35) 6
theorem scLT : FnScope ["self", "row"] ["self", "row"] (defScope sLT) := ⟨rfl, rfl, rfl, by decide +kernel, rfl, by decide +kernel, by decide +kernel⟩
theorem ok_lt {f R C fF : Addr} {fd fdF : FuncData} (F : Fun K "lets" "Rule.lets" sLT f fd) (T : RuleC K R)
    (GF : FnOk P w K mg base (L2.CX P w) 4 fF fdF ["self", "row"] (spFT R C vI)) (fm : Meth K R "fault" fF) (fb : Binds K fdF ["self", "row"] []) :
    FnOk P w K mg base (L2.CX P w) 5 f fd ["self", "row"] (spFT R C fun o => .bl o.isNone) := by
  refine F.okX scLT (fun vs H Q E h => ?_) (fun cdv A outer s H vs Q E hr h => ?_)
  · obtain ⟨r, p, ys, lo, hi, sp, x, rfl, _⟩ := h
    rfl
  · obtain ⟨r, p, ys, lo, hi, sp, x, rfl, hR, hB, hW, hl, q1, q2⟩ := h
    refine ⟨_, pss_one (ps_ret (pe_cmpR op_isN (pe_meth (E := E) (pv 0) T.c fm GF hr fb .nil (passes_call (takes_of rfl rfl rfl rfl) (fun _ _ _ _ z => z)) (pa_cons (pv 1) pa_nil)) pe_non (nomark _))), ?_⟩
    obtain ⟨dx, h1, h2⟩ := id hR
    refine ⟨.ref r, rfl, r, dx, _, rfl, h1, rfl, _, rfl, r, p, ys, lo, hi, sp, x, rfl, hR, hB, hW, hl, fun e o H1 ho s1 => ⟨rfl, ?_⟩, q2⟩
    have := q1 e o H1 ho s1
    have e2 : decide (vI o = .non) = o.isNone := by cases o <;> rfl
    rw [e2]
    exact this
end
end K05

set_option Elab.async false
set_option linter.all false
set_option maxRecDepth 100000
set_option maxHeartbeats 4000000
namespace K05
open PySem PySem.Spec PyProof.Rows L2 Pw TL
section
variable {P : Program} {w : World} {K : PySem.W.Frag} {mg : Str → Option Value} {base : Heap}
/-- the draw's list at p, its script at q -/
def Dr (p q : Addr) (ns : List Int) (H : Hp) : Prop := H q = some (.lst (ns.map V.int)) ∧ ∃ a b c : Int, H p = some (.lst [.ref q, .int a, .int b, .int c]) ∧ 0 ≤ a ∧ 0 ≤ b ∧ 0 ≤ c ∧ c < 2147483647
/-- all but what stands at p is kept -/
def SameX (p : Addr) (H H' : Hp) : Prop := ∀ b o, H b = some o → b ≠ p → H' b = some o
theorem SameX.refl (p : Addr) (H : Hp) : SameX p H H := fun _ _ e _ => e
theorem SameX.trans {p : Addr} {H H1 H2 : Hp} (a : SameX p H H1) (b : SameX p H1 H2) : SameX p H H2 := fun c o e n => b c o (a c o e n) n
theorem SameX.of {p : Addr} {H H1 : Hp} (s : Same H H1) : SameX p H H1 := fun b o e _ => s b o e
theorem SameX.put {p : Addr} {H H1 : Hp} {o : HO} (s : SameX p H H1) : SameX p H (upd H1 p o) := fun b x e n => by
  rw [upd_ne n]
  exact s b x e n
theorem SameX.new {p d : Addr} {H H1 : Hp} {o : HO} (s : SameX p H H1) (n : H1 d = none) : SameX p H (upd H1 d o) := fun b x e ne => by
  have h1 := s b x e ne
  rw [upd_ne (ne_of_none h1 n)]
  exact h1
theorem Dr.ne {p q : Addr} {ns : List Int} {H : Hp} (h : Dr p q ns H) : q ≠ p := by
  obtain ⟨h1, a, b, c, h2, _⟩ := h
  intro e
  rw [e, h2] at h1
  have e2 : [V.ref q, .int a, .int b, .int c] = ns.map V.int := HO.lst.inj (Option.some.inj h1)
  cases ns with
  | nil => simp at e2
  | cons n r => simp at e2
theorem Dr.same {p q : Addr} {ns : List Int} {H H' : Hp} (h : Dr p q ns H) (s : Same H H') : Dr p q ns H' := ⟨s _ _ h.1, let ⟨a, b, c, e, r⟩ := h.2; ⟨a, b, c, s _ _ e, r⟩⟩
theorem Dr.put {p q : Addr} {ns : List Int} {H : Hp} {a b c : Int} (h : H q = some (.lst (ns.map V.int))) (n : q ≠ p) (ha : 0 ≤ a) (hb : 0 ≤ b) (hc : 0 ≤ c) (hc2 : c < 2147483647) : Dr p q ns (upd H p (.lst [.ref q, .int a, .int b, .int c])) :=
  ⟨by rw [upd_ne n]; exact h, a, b, c, upd_same, ha, hb, hc, hc2⟩
/-! _law_open -/
abbrev sOP : Stmt := topS 37
theorem scOP : FnScope ["_law_script"] ["_law_script"] (defScope sOP) := ⟨rfl, rfl, rfl, by decide +kernel, rfl, by decide +kernel, by decide +kernel⟩
def spOP (K : PySem.W.Frag) : Sp := fun vs H Q _ => ∃ (a : Addr) (ns : List Int), vs = [.ref a] ∧ SqL K H a (ns.map V.int) ∧ ∀ H' p q ms, Same H H' → H p = none → Dr p q ms H' → Q (.ref p) H'
theorem ok_op {f : Addr} {fd : FuncData} {k : Nat} (F : Fun K "_law_open" "_law_open" sOP f fd) (ml : mg "list" = none) : FnOk P w K mg base CX0 (k + 1) f fd ["_law_script"] (spOP K) := by
  refine F.ok scOP (fun vs H Q E h => ?_) (fun cdv A outer s H vs Q E hr h => ?_)
  · obtain ⟨a, ns, rfl, _⟩ := h
    rfl
  · obtain ⟨a, ns, rfl, hS, q⟩ := h
    refine ⟨_, pss_one (ps_ret (pe_lst (pa_cons (pe_callTy call_list_of (by rfl) ml (by decide +kernel) (pa_cons (pe_slice sl_list (pv 0) po_none (po_some pe_int)) pa_nil)) (pa_cons pe_int (pa_cons pe_int (pa_cons pe_int pa_nil)))))), ?_⟩
    refine ⟨.ref a, rfl, 63, rfl, a, _, rfl, hS, fun p1 n1 => ?_⟩
    refine ⟨p1, _, rfl, .inl (SqL.of upd_same), fun q1 n2 => ⟨by show 4 ≤ sizeLine; decide, fun p n3 => ?_⟩⟩
    have e2 : q1 ≠ p := ne_of_none upd_same n3
    have ec : cutV (ns.map V.int) none (some 63) = (ns.take 63).map V.int := by
      unfold cutV
      rw [show HT.sIx (ns.map V.int).length (ns.map V.int).length (some 63) = min 63 (ns.map V.int).length from HT.sIx_nat _ _ 63]
      show List.take (min 63 (ns.map V.int).length - 0) (ns.map V.int) = _
      rw [Nat.sub_zero, List.map_take]
      exact (List.take_eq_take_min).symm
    have s2 : Same H (upd (upd H p1 (.lst (cutV (ns.map V.int) none (some 63)))) q1 (.lst (cutV (ns.map V.int) none (some 63)))) := (same_new n1).trans (same_new n2)
    refine q _ p q1 (ns.take 63) (s2.trans (same_new n3)) (s2.free n3) ⟨?_, 0, 0, 37, upd_same, by decide, by decide, by decide, by decide⟩
    rw [upd_ne e2, upd_same, ec]
/-! _law_pull -/
abbrev sPU : Stmt := topS 38
theorem scPU : FnScope ["_law_draw", "_law_total_of", "_law_cell", "_law_got", "_law_seed"] ["_law_draw", "_law_total_of"] (defScope sPU) := ⟨rfl, rfl, rfl, by decide +kernel, rfl, by decide +kernel, by decide +kernel⟩
def spPU : Sp := fun vs H Q _ => ∃ (p q : Addr) (ns : List Int) (n : Int), vs = [.ref p, .int n] ∧ 0 < n ∧ n < 1073741824 ∧ Dr p q ns H ∧ ∀ v H', 0 ≤ v → v < n → SameX p H H' → Dr p q ns H' → Q (.int v) H'
/-- behind the drawing of a cell: the last two ways -/
theorem ok_pu {f : Addr} {fd : FuncData} {k : Nat} (F : Fun K "_law_pull" "_law_pull" sPU f fd) (ml : mg "len" = none) : FnOk P w K mg base CX0 (k + 1) f fd ["_law_draw", "_law_total_of"] spPU := by
  refine F.ok scPU (fun vs H Q E h => ?_) (fun cdv A outer s H vs Q E hr h => ?_)
  · obtain ⟨p, q, ns, n, rfl, _⟩ := h
    rfl
  · obtain ⟨p, q, ns, n, rfl, n0, n1, hD, k⟩ := h
    refine ⟨_, C8.pss_cut (ps_if (PW.pt (pw_and (pt_cmpR op_lt (pe_ix ix_list (pv 0) pe_int (fun _ _ => rfl)) (pv 1) (nomark _))
          (pw_and1 (pt_cmpR op_lt (pe_ix ix_list (pv 0) pe_int (fun _ _ => rfl)) (pe_callB call_len_seq (by rfl) ml PySem.boot_len (pa_cons (pe_ix ix_list (pv 0) pe_int (fun _ _ => rfl)) pa_nil)) (nomark _)))))
        (pss_cons (ps_set (i := 2) scPU.nd rfl (.inl rfl) (pe_ix ix_list (pe_ix ix_list (pv 0) pe_int (fun _ _ => rfl)) (pe_ix ix_list (pv 0) pe_int (fun _ _ => rfl)) (fun _ _ => rfl)))
        (pss_cons (ps_asg (pe_op op_add (pe_ix ix_list (pv 0) pe_int (fun _ _ => rfl)) pe_int) (pg_sub (pv 0) pe_int set_list))
        (pss_cons (ps_asg pe_int (pg_sub (pv 0) pe_int set_list))
        (pss_one (ps_if (pt_cmpR op_ge (pv 2) (pe_op op_pow pe_int pe_int) (nomark _)) (pss_one (ps_asg (pv 2) (pg_sub (pv 0) pe_int set_list)))
          (pss_one (ps_asg (pe_op op_modN (pe_op op_add (pe_op op_add (pe_op op_mul (pe_ix ix_list (pv 0) pe_int (fun _ _ => rfl)) pe_int) (pe_op op_mul (pe_op op_modN (pv 2) pe_int) pe_int)) pe_int) pe_int) (pg_sub (pv 0) pe_int set_list)))))))) pss_nil)
      (pss_cons (ps_if (pt_cmpR op_ge (pe_ix ix_list (pv 0) pe_int (fun _ _ => rfl)) (pv 1) (nomark _))
        (pss_cons (ps_set (i := 3) scPU.nd rfl (.inl rfl) (pe_op op_modN (pe_ix ix_list (pv 0) pe_int (fun _ _ => rfl)) (pv 1)))
        (pss_cons (ps_asg (pe_op op_fdivN (pe_ix ix_list (pv 0) pe_int (fun _ _ => rfl)) (pv 1)) (pg_sub (pv 0) pe_int set_list)) (pss_one (ps_ret (pv 3))))) pss_nil)
      (pss_cons (ps_set (i := 4) scPU.nd rfl (.inl rfl) (pe_ix ix_list (pv 0) pe_int (fun _ _ => rfl)))
      (pss_cons (ps_asg (pe_op op_modN (pe_op op_add (pe_op op_add (pe_op op_mul (pe_op op_modN (pe_op op_mul (pv 4) (pv 4)) pe_int) pe_int) (pe_op op_mul (pv 4) pe_int)) pe_int) pe_int) (pg_sub (pv 0) pe_int set_list))
      (pss_one (ps_ret (pe_op op_modN (pe_op op_add (pe_op op_fdivN (pe_ix ix_list (pv 0) pe_int (fun _ _ => rfl)) pe_int) (pe_op op_mul (pe_op op_modN (pe_ix ix_list (pv 0) pe_int (fun _ _ => rfl)) pe_int) pe_int)) (pv 1))))))), ?_⟩
    have nq := hD.ne
    refine ⟨fun σ H1 => (∃ y, σ = [some (.ref p), some (.int n), y, none, none]) ∧ SameX p H H1 ∧ Dr p q ns H1, ?_, ?_⟩
    · obtain ⟨hq, a, b, c, hp, ha, hb, hc, hc2⟩ := id hD
      refine ⟨.ref p, rfl, p, _, 2, .int b, rfl, rfl, SqL.of hp, rfl, _, rfl, b, n, rfl, rfl, _, rfl, ?_⟩
      by_cases hbn : b < n
      · rw [decide_eq_true hbn]
        refine iteT ⟨.ref p, rfl, p, _, 1, .int a, rfl, rfl, SqL.of hp, rfl, .ref p, rfl, p, _, 0, .ref q, rfl, rfl, SqL.of hp, rfl, q, _, rfl, .inl (SqL.of hq), a, _, rfl, rfl, _, rfl, ?_⟩
        by_cases hal : a < ((ns.map V.int).length : Int)
        · rw [decide_eq_true hal]
          have hi : a.toNat < ns.length := by
            rw [List.length_map] at hal
            omega
          have ea : a = ((a.toNat : Nat) : Int) := by omega
          have hz : atI (ns.map V.int) a = some (.int ns[a.toNat]) := by
            refine at_of ea ?_
            rw [List.getElem?_map, List.getElem?_eq_getElem hi]
            rfl
          refine iteT ⟨.ref p, rfl, p, _, 0, .ref q, rfl, rfl, SqL.of hp, rfl, .ref p, rfl, p, _, 1, .int a, rfl, rfl, SqL.of hp, rfl, q, _, a, .int ns[a.toNat], rfl, rfl, SqL.of hq, hz, ?_⟩
          refine ⟨.ref p, rfl, p, _, 1, .int a, rfl, rfl, SqL.of hp, rfl, a, 1, rfl, rfl, .ref p, rfl, p, _, 1, 1, rfl, rfl, hp, rfl, ?_⟩
          have hp1 : upd H p (.lst [.ref q, .int (a + 1), .int b, .int c]) p = some (.lst [.ref q, .int (a + 1), .int b, .int c]) := upd_same
          refine ⟨.ref p, rfl, p, _, 2, 2, rfl, rfl, hp1, rfl, ?_⟩
          have hp2 : upd (upd H p (.lst [.ref q, .int (a + 1), .int b, .int c])) p (.lst [.ref q, .int (a + 1), .int 0, .int c]) p = some (.lst [.ref q, .int (a + 1), .int 0, .int c]) := upd_same
          have hq2 : upd (upd H p (.lst [.ref q, .int (a + 1), .int b, .int c])) p (.lst [.ref q, .int (a + 1), .int 0, .int c]) q = some (.lst (ns.map V.int)) := by rw [upd_ne nq, upd_ne nq]; exact hq
          refine ⟨_, rfl, 10, 18, rfl, rfl, ⟨by decide, by decide, by decide⟩, ns[a.toNat], 10 ^ 18, rfl, rfl, _, rfl, ?_⟩
          refine ite2 (fun hge => ?_) (fun hge => ?_)
          · have hge : (10 : Int) ^ 18 ≤ ns[a.toNat] := of_decide_eq_true hge
            refine ⟨_, rfl, .ref p, rfl, p, _, 2, 2, rfl, rfl, hp2, rfl, ⟨some (.int ns[a.toNat]), rfl⟩, ?_, ?_⟩
            · exact ((SameX.refl p H).put.put).put
            · exact Dr.put hq2 nq (by omega) (by omega) hc hc2
          · refine ⟨.ref p, rfl, p, _, 3, .int c, rfl, rfl, SqL.of hp2, rfl, c, 40692, rfl, rfl, .inr ⟨by decide, by decide⟩, _, rfl, _, 2147483629, rfl, rfl, (show (2147483629 : Int) ≠ 0 by decide), _, 69069, rfl, rfl, .inr ⟨by decide, by decide⟩, _, _, rfl, rfl, _, 7919, rfl, rfl, _, 2147483647, rfl, rfl, (show (2147483647 : Int) ≠ 0 by decide), .ref p, rfl, p, _, 3, 3, rfl, rfl, hp2, rfl, ⟨some (.int ns[a.toNat]), rfl⟩, ?_, ?_⟩
            · exact ((SameX.refl p H).put.put).put
            · refine Dr.put hq2 nq (by omega) (by omega) ?_ ?_
              · exact Int.fmod_nonneg_of_pos _ (by decide)
              · exact Int.fmod_lt_of_pos _ (by decide)
        · rw [decide_eq_false hal]
          exact iteF ⟨⟨none, rfl⟩, SameX.refl p H, hD⟩
      · rw [decide_eq_false hbn]
        exact iteF (iteF ⟨⟨none, rfl⟩, SameX.refl p H, hD⟩)
    · rintro σ H1 ⟨⟨y, rfl⟩, sx, hD1⟩
      obtain ⟨hq, a, b, c, hp, ha, hb, hc, hc2⟩ := id hD1
      refine ⟨.ref p, rfl, p, _, 2, .int b, rfl, rfl, SqL.of hp, rfl, _, rfl, b, n, rfl, rfl, _, rfl, ?_⟩
      refine ite2 (fun hge => ?_) (fun hge => ?_)
      · refine ⟨.ref p, rfl, p, _, 2, .int b, rfl, rfl, SqL.of hp, rfl, _, rfl, b, n, rfl, rfl, by omega, ?_⟩
        refine ⟨.ref p, rfl, p, _, 2, .int b, rfl, rfl, SqL.of hp, rfl, _, rfl, b, n, rfl, rfl, ⟨by omega, by omega⟩, .ref p, rfl, p, _, 2, 2, rfl, rfl, hp, rfl, _, rfl, ?_⟩
        refine k _ _ (Int.fmod_nonneg_of_pos _ n0) (Int.fmod_lt_of_pos _ n0) sx.put (Dr.put hq nq ha ?_ hc hc2)
        rw [Int.fdiv_eq_ediv_of_nonneg _ (by omega)]
        exact Int.ediv_nonneg hb (by omega)
      · refine ⟨.ref p, rfl, p, _, 3, .int c, rfl, rfl, SqL.of hp, rfl, ?_⟩
        refine ⟨_, rfl, _, rfl, c, c, rfl, rfl, .inl ⟨by omega, by omega⟩, _, 2147483587, rfl, rfl, (show (2147483587 : Int) ≠ 0 by decide), _, 3, rfl, rfl, .inr ⟨by decide, by decide⟩, _, rfl, c, 48271, rfl, rfl, .inr ⟨by decide, by decide⟩, _, _, rfl, rfl, _, 1013904223, rfl, rfl, _, 2147483647, rfl, rfl, (show (2147483647 : Int) ≠ 0 by decide), .ref p, rfl, p, _, 3, 3, rfl, rfl, hp, rfl, ?_⟩
        refine ⟨.ref p, rfl, p, _, 3, _, rfl, rfl, SqL.of upd_same, rfl, _, 61, rfl, rfl, ⟨by decide, by decide⟩, .ref p, rfl, p, _, 3, _, rfl, rfl, SqL.of upd_same, rfl, _, 8209, rfl, rfl, (show (8209 : Int) ≠ 0 by decide), _, 29, rfl, rfl, .inr ⟨by decide, by decide⟩, _, _, rfl, rfl, _, rfl, _, n, rfl, rfl, by omega, ?_⟩
        exact k _ _ (Int.fmod_nonneg_of_pos _ n0) (Int.fmod_lt_of_pos _ n0) sx.put (Dr.put hq nq ha hb (Int.fmod_nonneg_of_pos _ (by decide)) (Int.fmod_lt_of_pos _ (by decide)))
end
section
variable {P : Program} {w : World} {K : PySem.W.Frag} {mg : Str → Option Value} {base : Heap}
/-- pull as its callers have it -/
structure PUOk (P : Program) (w : World) (K : PySem.W.Frag) (mg : Str → Option Value) (base : Heap) : Prop where
  ex : ∃ (f : Addr) (fd : FuncData), FnOk P w K mg base CX0 1 f fd ["_law_draw", "_law_total_of"] spPU ∧ mg "_law_pull" = some (.ref f) ∧ PySem.W.keepIn K (.ref f) = true ∧ Binds K fd ["_law_draw", "_law_total_of"] []
/-! _law_row -/
abbrev sRO : Stmt := topS 41
theorem scRO : FnScope ["_law_draw", "_law_many", "_law_k"] ["_law_draw", "_law_many"] (defScope sRO) := ⟨rfl, rfl, rfl, by decide +kernel, rfl, by decide +kernel, by decide +kernel⟩
def spRO : Sp := fun vs H Q _ => ∃ (p q : Addr) (ns : List Int) (n : Nat), vs = [.ref p, .int (n : Nat)] ∧ n ≤ 1000 ∧ Dr p q ns H ∧ ∀ (x : Str) H', Pure (tl x) → (tl x).length = n → SameX p H H' → Dr p q ns H' → Q (.str x) H'
/-- texts of one sign each, 0 or 1 -/
def Signs (l : List Nat) : List V := l.map fun c => V.str ⟨#[c]⟩
theorem join_signs : ∀ l : List Nat, tl (Txt.join Str.empty (l.map fun c => (⟨#[c]⟩ : Str))) = l := by
  intro l
  rw [join_eq]
  have gen : ∀ l : List Nat, tl (Str.join Str.empty (l.map fun c => (⟨#[c]⟩ : Str))) = l := by
    intro l
    induction l with
    | nil => rfl
    | cons c r ih =>
      cases r with
      | nil => rfl
      | cons d r =>
        have e : Str.join Str.empty ((c :: d :: r).map fun c => (⟨#[c]⟩ : Str)) = (⟨#[c]⟩ : Str) ++ Str.empty ++ Str.join Str.empty ((d :: r).map fun c => (⟨#[c]⟩ : Str)) := by
          first
            | rfl
            | simp [Str.join]
        rw [e, tl_append, tl_append, ih]
        rfl
  exact gen l
theorem ok_ro {f : Addr} {fd : FuncData} (F : Fun K "_law_row" "_law_row" sRO f fd) (R : PUOk P w K mg base) (mr : mg "range" = none) : FnOk P w K mg base CX0 2 f fd ["_law_draw", "_law_many"] spRO := by
  obtain ⟨fR, fdR, G, gm, gk, gb⟩ := R.ex
  refine F.ok scRO (fun vs H Q E h => ?_) (fun cdv A outer s H vs Q E hr h => ?_)
  · obtain ⟨p, q, ns, n, rfl, _⟩ := h
    rfl
  · obtain ⟨p, q, ns, n, rfl, hn, hD, k⟩ := h
    refine ⟨_, pss_one (ps_ret (pe_join pe_str (pe_lc (own := [("_law_k", 2)]) (g := gName 2) (tt := tYes) rfl scRO.nd (pi_range1 rfl mr (pa_cons (pv 1) pa_nil))
        (blkOk_by (N := ["_law_draw", "_law_many", "_law_k"]) (sc := defScope sRO) (by decide +kernel)) (fun _ _ _ _ _ => pg_name (i := 2) scRO.nd rfl (Or.inl rfl)) (fun _ _ _ _ _ => pts_nil)
        (fun _ _ _ _ _ => pe_ix ix_str pe_str (pe_call G hr rfl gm gk gb .nil pass0 (pa_cons (pv 0) (pa_cons pe_int pa_nil))) (fun _ _ => rfl))))), ?_⟩
    have pD : ∀ {D : Addr}, H D = none → D ≠ p := fun {D} nD e => by
      obtain ⟨_, a, b, c, hp, _⟩ := hD
      rw [e, hp] at nD
      cases nD
    refine ⟨⟨_, rfl⟩, _, rfl, (n : Int), rfl, by omega, by omega, fun D nD => ?_⟩
    refine lc_range (lo := 0) (n := n) (fun i H2 => ∃ l : List Nat, Pw.Pure l ∧ l.length = i ∧ SameX p H H2 ∧ Dr p q ns H2 ∧ H2 D = some (.lst (Signs l)))
      ⟨[], (fun c hc => by cases hc), rfl, (SameX.refl p H).new nD, hD.same (same_new nD), upd_same⟩ (fun i H2 hi h => ?_) (fun H2 h => ?_)
    · obtain ⟨l, hl, hll, sx, hD2, h2⟩ := h
      refine ⟨rfl, .ref p, rfl, p, q, ns, 2, rfl, by decide, by decide, hD2, fun v H3 h0 h1 sx3 hD3 => ?_⟩
      have h3 : H3 D = some (.lst (Signs l)) := sx3 _ _ h2 (pD nD)
      have fin : ∀ c : Nat, (c = 48 ∨ c = 49) → ∃ acc, H3 D = some (.lst acc) ∧ acc.length < sizeLine ∧ ∃ l : List Nat, Pw.Pure l ∧ l.length = i + 1 ∧ SameX p H (upd H3 D (.lst (acc ++ [.str ⟨#[c]⟩]))) ∧ Dr p q ns (upd H3 D (.lst (acc ++ [.str ⟨#[c]⟩]))) ∧ (upd H3 D (.lst (acc ++ [.str ⟨#[c]⟩]))) D = some (.lst (Signs l)) := fun c hc => by
        refine ⟨_, h3, ?_, l ++ [c], ?_, ?_, ?_, ?_, ?_⟩
        · unfold Signs
          rw [List.length_map]
          exact small1000 (by omega)
        · intro d hd
          rcases List.mem_append.mp hd with z | z
          · exact hl d z
          · obtain rfl : d = c := by simpa using z
            exact hc
        · rw [List.length_append, hll]
          rfl
        · intro b o e ne
          rw [upd_ne (ne_of_none e nD)]
          exact sx3 b o (sx b o e ne) ne
        · obtain ⟨e1, a, b, c, e2, r⟩ := hD3
          have n1 : q ≠ D := ne_of_none hD.1 nD
          exact ⟨by rw [upd_ne n1]; exact e1, a, b, c, by rw [upd_ne (Ne.symm (pD nD))]; exact e2, r⟩
        · rw [upd_same]
          unfold Signs
          rw [List.map_append]
          rfl
      have hv : v = 0 ∨ v = 1 := by omega
      rcases hv with rfl | rfl
      · exact ⟨"01", 0, 48, rfl, rfl, by decide, rfl, fin 48 (.inl rfl)⟩
      · exact ⟨"01", 1, 49, rfl, rfl, by decide, rfl, fin 49 (.inr rfl)⟩
    · obtain ⟨l, hl, hll, sx, hD2, h2⟩ := h
      have e2 : Signs l = (l.map fun c => (⟨#[c]⟩ : Str)).map V.str := by
        unfold Signs
        rw [List.map_map]
        rfl
      rw [e2] at h2
      refine ⟨_, D, (l.map fun c => (⟨#[c]⟩ : Str)), rfl, rfl, .inl (SqL.of h2), ?_, ?_⟩
      · have e3 : ((l.map fun c => (⟨#[c]⟩ : Str)).map (·.length)).sum = l.length := by
          rw [List.map_map]
          clear e2 h2 hll hl
          induction l with
          | nil => rfl
          | cons c r ih =>
            rw [List.map_cons, List.sum_cons, ih, List.length_cons, Nat.add_comm]
            rfl
        rw [e3]
        show l.length + (l.map _).length * 0 ≤ _
        omega
      · refine k _ H2 ?_ ?_ sx hD2
        · rw [show Str.ofString "" = Str.empty from rfl, join_signs]
          exact hl
        · rw [show Str.ofString "" = Str.empty from rfl, join_signs]
          exact hll
end
section
variable {P : Program} {w : World} {K : PySem.W.Frag} {mg : Str → Option Value} {base : Heap}
/-! _law_bad_at -/
abbrev sBA : Stmt := topS 42
theorem scBA : FnScope ["_law_text", "_law_bad", "_law_at"] ["_law_text"] (defScope sBA) := ⟨rfl, rfl, rfl, by decide +kernel, rfl, by decide +kernel, by decide +kernel⟩
def spBA : Sp := fun vs H Q _ => ∃ x : Str, vs = [.str x] ∧ (tl x).length ≤ 1000 ∧ ∀ H', Same H H' → Q (vOpt (strange (tl x))) H'
/-- the places of strangers below n -/
def bads (l : List Nat) (n : Nat) : List Int := ((List.range n).filter fun i => (l[i]?.map bad).getD false).map fun (i : Nat) => (i : Int)
theorem bads_snoc {l : List Nat} {n c : Nat} (h : l[n]? = some c) : bads l (n + 1) = bads l n ++ (if bad c = true then [(n : Int)] else []) := by
  unfold bads
  rw [List.range_succ, List.filter_append, List.map_append]
  congr 1
  cases hb : bad c <;> simp [h, hb]
theorem bads_head (l : List Nat) : (bads l l.length).head? = (strange l).map fun (i : Nat) => (i : Int) := by
  have gen : ∀ n, n ≤ l.length → (bads l n).head? = ((strange (l.take n)).map fun (i : Nat) => (i : Int)) := by
    intro n
    induction n with
    | zero => intro _; rfl
    | succ n ih =>
      intro hn
      have hg : l[n]? = some l[n] := List.getElem?_eq_getElem (by omega)
      have ih := ih (by omega)
      rw [bads_snoc hg, take_snoc hg, List.head?_append, ih]
      unfold strange
      rw [List.findIdx?_append]
      cases hs : (l.take n).findIdx? bad with
      | some i => rfl
      | none =>
        cases hb : bad l[n] with
        | false => simp [hb]
        | true =>
          simp [hb, List.length_take]
          omega
  have := gen l.length (Nat.le_refl _)
  rw [List.take_length] at this
  exact this
theorem bads_len (l : List Nat) (n : Nat) : (bads l n).length ≤ n := by
  unfold bads
  rw [List.length_map]
  exact Nat.le_trans (List.length_filter_le _ _) (by rw [List.length_range]; exact Nat.le_refl _)
theorem not01 (c : Nat) : (!decide (c ∈ (Str.ofString "01").cps.toList)) = bad c := by
  have e : (Str.ofString "01").cps.toList = [48, 49] := rfl
  rw [e]
  unfold bad
  by_cases h0 : c = 48
  · subst h0; rfl
  · by_cases h1 : c = 49
    · subst h1; rfl
    · simp [h0, h1]
theorem ok_ba {f : Addr} {fd : FuncData} {k : Nat} (F : Fun K "_law_bad_at" "_law_bad_at" sBA f fd) (mr : mg "range" = none) (ml : mg "len" = none) : FnOk P w K mg base CX0 (k + 1) f fd ["_law_text"] spBA := by
  refine F.ok scBA (fun vs H Q E h => ?_) (fun cdv A outer s H vs Q E hr h => ?_)
  · obtain ⟨x, rfl, _⟩ := h
    rfl
  · obtain ⟨x, rfl, hl, q⟩ := h
    have hz : x.length ≤ sizeLine := by
      rw [len_tl]
      exact Nat.le_of_lt (small1000 hl)
    refine ⟨_, pss_cons (ps_setLc (i := 1) (own := [("_law_at", 2)]) (g := gName 2) rfl scBA.nd rfl rfl (sw_true rfl rfl rfl (by decide +kernel)) (pi_range1 rfl mr (pa_cons (pe_callB call_len_str (by rfl) ml PySem.boot_len (pa_cons (pv 0) pa_nil)) pa_nil))
        (blkOk_by (N := ["_law_text", "_law_bad", "_law_at"]) (sc := defScope sBA) (by decide +kernel)) (fun _ _ _ _ _ => pg_name (i := 2) scBA.nd rfl (Or.inl rfl))
        (fun _ _ _ _ _ => pts_one (pt_cmpR op_notIn_sign (pe_ix ix_str (pv 0) (pv 2) (fun _ _ => rfl)) pe_str (by rfl))) (fun _ _ _ _ _ => pv 2))
      (pss_one (ps_ret (pe_ifExp (pt_cmpR (op_neD hr.units) (pv 1) (pe_lst pa_nil) (nomark _)) (pe_ix ix_list (pv 1) pe_int (fun _ _ => rfl)) pe_non))), ?_⟩
    refine ⟨_, rfl, x, rfl, hz, (x.length : Int), rfl, by omega, ?_, fun D nD => ?_⟩
    · rw [len_tl]
      omega
    refine lc_range (lo := 0) (n := x.length) (fun i H2 => Same H H2 ∧ H2 D = some (.lst ((bads (tl x) i).map V.int))) ⟨same_new nD, upd_same⟩ (fun i H2 hi h => ?_) (fun H2 h => ?_)
    · obtain ⟨s2, h2⟩ := h
      have hi2 : i < (tl x).length := by rw [← len_tl]; exact hi
      have hg : (tl x)[i]? = some (tl x)[i] := List.getElem?_eq_getElem hi2
      refine ⟨rfl, _, rfl, _, rfl, x, (0 + (i : Int)), (tl x)[i], rfl, rfl, hz, ?_, (tl x)[i], _, rfl, rfl, _, rfl, ?_⟩
      · rw [Int.zero_add]
        exact atI_nat hg
      rw [not01]
      have sn := bads_snoc hg
      cases hb : bad (tl x)[i] with
      | true =>
        rw [hb, if_pos rfl] at sn
        refine iteT ⟨_, rfl, _, h2, ?_, same_put s2 nD, ?_⟩
        · rw [List.length_map]
          exact Nat.lt_of_le_of_lt (bads_len _ _) (small1000 (by omega))
        · rw [upd_same, sn, List.map_append, Int.zero_add]
          rfl
      | false =>
        rw [hb, if_neg (by decide), List.append_nil] at sn
        refine iteF ⟨s2, ?_⟩
        rw [sn]
        exact h2
    · obtain ⟨s2, h2⟩ := h
      rw [len_tl] at h2
      have hd := bads_head (tl x)
      refine ⟨_, rfl, by show 0 ≤ sizeLine; decide, fun r nr => ?_⟩
      have s3 : Same H (upd H2 r (.lst [])) := s2.trans (same_new nr)
      have h3 : upd H2 r (.lst []) D = some (.lst ((bads (tl x) (tl x).length).map V.int)) := by
        rw [upd_ne (ne_of_none h2 nr)]
        exact h2
      refine ⟨.list ((bads (tl x) (tl x).length).map PyData.int), .list [], .lst (SqL.of h3) ?_, .lst (SqL.of upd_same) .nil, ?_, rfl, _, rfl, ?_⟩
      · generalize bads (tl x) (tl x).length = l
        induction l with
        | nil => exact .nil
        | cons a r ih => exact .cons (.int a) ih
      · exact PySem.W.shaped_ints _
      · cases hs : strange (tl x) with
        | none =>
          rw [hs] at hd
          have e0 : bads (tl x) (tl x).length = [] := List.head?_eq_none_iff.mp hd
          rw [e0]
          refine iteF ?_
          have := q _ s3
          rw [hs] at this
          exact this
        | some i =>
          rw [hs] at hd
          obtain ⟨r2, e0⟩ : ∃ r2, bads (tl x) (tl x).length = (i : Int) :: r2 := by
            cases hb : bads (tl x) (tl x).length with
            | nil =>
              rw [hb] at hd
              cases hd
            | cons a r2 =>
              rw [hb] at hd
              have : a = (i : Int) := Option.some.inj hd
              rw [this]
              exact ⟨r2, rfl⟩
          rw [e0] at h3 ⊢
          refine iteT ⟨_, rfl, D, _, 0, .int (i : Nat), rfl, rfl, SqL.of h3, atI_nat (j := 0) rfl, ?_⟩
          have := q _ s3
          rw [hs] at this
          exact this
end
end K05

set_option Elab.async false
set_option linter.all false
set_option maxRecDepth 100000
set_option maxHeartbeats 4000000
namespace K05
open PySem PySem.Spec PyProof.Rows L2 Pw TL
section
variable {P : Program} {w : World} {K : PySem.W.Frag} {mg : Str → Option Value} {base : Heap}
/-- built-in names that the law reads -/
structure BN (mg : Str → Option Value) : Prop where
  isi : mg "isinstance" = none
  int : mg "int" = none
  bool : mg "bool" = none
  str : mg "str" = none
  tup : mg "tuple" = none
  lst : mg "list" = none
  len : mg "len" = none
  all : mg "all" = none
  rng : mg "range" = none
  max : mg "max" = none
  min : mg "min" = none
  abs : mg "abs" = none
  enu : mg "enumerate" = none
/-! _law_num -/
abbrev sNU : Stmt := topS 39
theorem scNU : FnScope ["_law_found"] ["_law_found"] (defScope sNU) := ⟨rfl, rfl, rfl, by decide +kernel, rfl, by decide +kernel, by decide +kernel⟩
def spNU : Sp := fun vs H Q _ => ∃ i : Int, vs = [.int i] ∧ Q (.bl true) H
theorem ok_nu {f : Addr} {fd : FuncData} {k : Nat} (F : Fun K "_law_num" "_law_num" sNU f fd) (B : BN mg) : FnOk P w K mg base CX0 (k + 1) f fd ["_law_found"] spNU := by
  refine F.ok scNU (fun vs H Q E h => ?_) (fun cdv A outer s H vs Q E hr h => ?_)
  · obtain ⟨i, rfl, _⟩ := h
    rfl
  · obtain ⟨i, rfl, q⟩ := h
    refine ⟨_, pss_one (ps_ret (pe_and (pe_callB call_isi (by rfl) B.isi (by decide +kernel) (pa_cons (pv 0) (pa_cons (pe_bltn (v := .ty "int") (by rfl) B.int (by decide +kernel) rfl) pa_nil)))
      (pe_one (pe_not (pe_callB call_isi (by rfl) B.isi (by decide +kernel) (pa_cons (pv 0) (pa_cons (pe_bltn (v := .ty "bool") (by rfl) B.bool (by decide +kernel) rfl) pa_nil))))))), ?_⟩
    refine ⟨.int i, rfl, .int i, .ty "int", .type "int", .type "int", true, rfl, .ty _, .base (.int i), kit_ty (by decide +kernel), true, rfl, iteT ?_⟩
    exact ⟨.int i, rfl, .int i, .ty "bool", .type "int", .type "bool", false, rfl, .ty _, .base (.int i), kit_ty (by decide +kernel), false, rfl, q⟩
/-! _law_like -/
abbrev sLK : Stmt := topS 40
theorem scLK : FnScope ["_law_found", "_law_due", "_law_k"] ["_law_found", "_law_due"] (defScope sLK) := ⟨rfl, rfl, rfl, by decide +kernel, rfl, by decide +kernel, by decide +kernel⟩
/-- two values that are alike, at most n deep -/
inductive Lk (K : PySem.W.Frag) (H : Hp) : Nat → V → V → Prop
  | non {n : Nat} : Lk K H n .non .non
  | bl {n : Nat} (b : Bool) : Lk K H n (.bl b) (.bl b)
  | int {n : Nat} (i : Int) : Lk K H n (.int i) (.int i)
  | str {n : Nat} (x : Str) : Lk K H n (.str x) (.str x)
  | lst {n : Nat} {a b : Addr} {xs ys : List V} (ha : SqL K H a xs) (hb : SqL K H b ys) (hl : xs.length = ys.length) (hz : xs.length ≤ 1001) (hi : ∀ (i : Nat) (x y : V), xs[i]? = some x → ys[i]? = some y → Lk K H n x y) : Lk K H (n + 1) (.ref a) (.ref b)
  | tup {n : Nat} {a b : Addr} {xs ys : List V} (ha : SqT K H a xs) (hb : SqT K H b ys) (hl : xs.length = ys.length) (hz : xs.length ≤ 1001) (hi : ∀ (i : Nat) (x y : V), xs[i]? = some x → ys[i]? = some y → Lk K H n x y) : Lk K H (n + 1) (.ref a) (.ref b)
/-- both are alike -/
def spLK (K : PySem.W.Frag) : Nat → Sp
  | 0 => fun _ _ _ _ => False
  | n + 1 => fun vs H Q _ => ∃ (v u : V), vs = [v, u] ∧ Lk K H n v u ∧ ∀ H', Same H H' → Q (.bl true) H'
theorem ty_list {H : Hp} {a : Addr} {xs : List V} (h : SqL K H a xs) : TyX K H (.ref a) (.type "list") := by
  rcases h with (h | ⟨o, h⟩) | ⟨o, its, n, h1, h2, _⟩
  · exact .base (.lst h)
  · exact .base (.frz h)
  · exact .kList h1 h2
theorem ty_tup {H : Hp} {a : Addr} {xs : List V} (h : SqT K H a xs) : TyX K H (.ref a) (.type "tuple") := by
  rcases h with (h | ⟨o, h⟩) | ⟨o, its, n, h1, h2, _⟩
  · exact .base (.tup h)
  · exact .fTuple h
  · exact .kTuple h1 h2
theorem Same.tup {H H' : Hp} {a : Addr} {xs : List V} (s : Same H H') (h : SqT K H a xs) : SqT K H' a xs := by
  rcases h with (h | ⟨o, h⟩) | h
  · exact .inl (.inl (s _ _ h))
  · exact .inl (.inr ⟨o, s _ _ h⟩)
  · exact .inr h
theorem Lk.same {H H' : Hp} (s : Same H H') : ∀ {n : Nat} {v u : V}, Lk K H n v u → Lk K H' n v u := by
  intro n v u h
  induction h with
  | non => exact .non
  | bl b => exact .bl b
  | int i => exact .int i
  | str x => exact .str x
  | lst ha hb hl hz _ ih => exact .lst (s.seq ha) (s.seq hb) hl hz ih
  | tup ha hb hl hz _ ih => exact .tup (Same.tup s ha) (Same.tup s hb) hl hz ih
theorem all_true (n : Nat) : (List.replicate n true).all id = true := by
  induction n with
  | zero => rfl
  | succ n ih => rw [List.replicate_succ, List.all_cons, ih]; rfl
theorem ok_lk {f fN : Addr} {fd fdN : FuncData} (F : Fun K "_law_like" "_law_like" sLK f fd) (B : BN mg) (fm : mg "_law_like" = some (.ref f)) (fk : PySem.W.keepIn K (.ref f) = true) (fb : Binds K fd ["_law_found", "_law_due"] [])
    (GN : FnOk P w K mg base CX0 1 fN fdN ["_law_found"] spNU) (nm : mg "_law_num" = some (.ref fN)) (nk : PySem.W.keepIn K (.ref fN) = true) (nb : Binds K fdN ["_law_found"] []) : ∀ n, FnOk P w K mg base CX0 (n + 1) f fd ["_law_found", "_law_due"] (spLK K n)
  | 0 => ⟨fun _ _ _ _ h => h.elim, fun _ _ _ _ _ _ _ _ _ _ _ _ _ h => h.elim⟩
  | n + 1 => by
    have G := ok_lk F B fm fk fb GN nm nk nb n
    refine F.ok scLK (fun vs H Q E h => ?_) (fun cdv A outer s H vs Q E hr h => ?_)
    · obtain ⟨v, u, rfl, _⟩ := h
      rfl
    · obtain ⟨v, u, rfl, hv, q⟩ := h
      have hr1 : Room 1 _ := hr.mono (Nat.le_add_left _ _)
      refine ⟨_, pss_cons (ps_if (pt_cmpR op_isN (pv 1) pe_non (nomark _)) (pss_one (ps_ret (pe_cmpR op_isN (pv 0) pe_non (nomark _)))) pss_nil)
        (pss_cons (ps_if (pt_val (pe_callB call_isi (by rfl) B.isi (by decide +kernel) (pa_cons (pv 1) (pa_cons (pe_bltn (v := .ty "bool") (by rfl) B.bool (by decide +kernel) rfl) pa_nil))))
          (pss_one (ps_ret (pe_and (pe_callB call_isi (by rfl) B.isi (by decide +kernel) (pa_cons (pv 0) (pa_cons (pe_bltn (v := .ty "bool") (by rfl) B.bool (by decide +kernel) rfl) pa_nil))) (pe_one (pe_cmpR op_eq (pv 0) (pv 1) (nomark _)))))) pss_nil)
        (pss_cons (ps_if (pt_val (pe_callB call_isi (by rfl) B.isi (by decide +kernel) (pa_cons (pv 1) (pa_cons (pe_bltn (v := .ty "int") (by rfl) B.int (by decide +kernel) rfl) pa_nil))))
          (pss_one (ps_ret (pe_and (pe_call GN hr1 rfl nm nk nb .nil pass0 (pa_cons (pv 0) pa_nil)) (pe_one (pe_cmpR op_eq (pv 0) (pv 1) (nomark _)))))) pss_nil)
        (pss_cons (ps_if (pt_val (pe_callB call_isi (by rfl) B.isi (by decide +kernel) (pa_cons (pv 1) (pa_cons (pe_bltn (v := .ty "str") (by rfl) B.str (by decide +kernel) rfl) pa_nil))))
          (pss_one (ps_ret (pe_and (pe_callB call_isi (by rfl) B.isi (by decide +kernel) (pa_cons (pv 0) (pa_cons (pe_bltn (v := .ty "str") (by rfl) B.str (by decide +kernel) rfl) pa_nil))) (pe_one (pe_cmpR op_eq (pv 0) (pv 1) (nomark _)))))) pss_nil)
        (pss_cons (ps_if (PW.pt (pw_or (pt_cmpR op_ne (pe_callB call_isi (by rfl) B.isi (by decide +kernel) (pa_cons (pv 1) (pa_cons (pe_bltn (v := .ty "tuple") (by rfl) B.tup (by decide +kernel) rfl) pa_nil))) (pe_callB call_isi (by rfl) B.isi (by decide +kernel) (pa_cons (pv 0) (pa_cons (pe_bltn (v := .ty "tuple") (by rfl) B.tup (by decide +kernel) rfl) pa_nil))) (nomark _))
            (pw_or1 (pt_cmpR op_ne (pe_callB call_isi (by rfl) B.isi (by decide +kernel) (pa_cons (pv 1) (pa_cons (pe_bltn (v := .ty "list") (by rfl) B.lst (by decide +kernel) rfl) pa_nil))) (pe_callB call_isi (by rfl) B.isi (by decide +kernel) (pa_cons (pv 0) (pa_cons (pe_bltn (v := .ty "list") (by rfl) B.lst (by decide +kernel) rfl) pa_nil))) (nomark _)))))
          (pss_one (ps_ret pe_bl)) pss_nil)
        (pss_cons (ps_if (pt_cmpR op_ne (pe_callB call_len_seq (by rfl) B.len PySem.boot_len (pa_cons (pv 0) pa_nil)) (pe_callB call_len_seq (by rfl) B.len PySem.boot_len (pa_cons (pv 1) pa_nil)) (nomark _)) (pss_one (ps_ret pe_bl)) pss_nil)
        (pss_one (ps_ret (pe_callB (cr_all rfl) (by rfl) B.all (by decide +kernel) (pa_cons (pe_lc (own := [("_law_k", 2)]) (g := gName 2) (tt := tYes) rfl scLK.nd (pi_range1 rfl B.rng (pa_cons (pe_callB call_len_seq (by rfl) B.len PySem.boot_len (pa_cons (pv 1) pa_nil)) pa_nil))
          (blkOk_by (N := ["_law_found", "_law_due", "_law_k"]) (sc := defScope sLK) (by decide +kernel)) (fun _ _ _ _ _ => pg_name (i := 2) scLK.nd rfl (Or.inl rfl)) (fun _ _ _ _ _ => pts_nil)
          (fun _ _ _ _ _ => pe_call G hr rfl fm fk fb .nil pass0 (pa_cons (pe_ix (r := rIx K) ix_seq (pv 0) (pv 2) (fun _ _ => rfl)) (pa_cons (pe_ix (r := rIx K) ix_seq (pv 1) (pv 2) (fun _ _ => rfl)) pa_nil)))) pa_nil))))))))), ?_⟩
      have q0 := q H (Same.refl H)
      cases hv with
      | non =>
        exact ⟨.non, rfl, rfl, true, rfl, iteT ⟨.non, rfl, rfl, q0⟩⟩
      | bl b =>
        refine ⟨.bl b, rfl, rfl, _, rfl, iteF ⟨.bl b, rfl, .bl b, .ty "bool", .type "bool", .type "bool", true, rfl, .ty _, .base (.bl b), kit_ty (by decide +kernel), _, rfl, iteT ?_⟩⟩
        refine ⟨.bl b, rfl, .bl b, .ty "bool", .type "bool", .type "bool", true, rfl, .ty _, .base (.bl b), kit_ty (by decide +kernel), true, rfl, iteT ⟨_, rfl, _, rfl, rfl, ?_⟩⟩
        rw [decide_eq_true rfl]
        exact q0
      | int i =>
        refine ⟨.int i, rfl, rfl, _, rfl, iteF ⟨.int i, rfl, .int i, .ty "bool", .type "int", .type "bool", false, rfl, .ty _, .base (.int i), kit_ty (by decide +kernel), _, rfl, iteF ?_⟩⟩
        refine ⟨.int i, rfl, .int i, .ty "int", .type "int", .type "int", true, rfl, .ty _, .base (.int i), kit_ty (by decide +kernel), _, rfl, iteT ?_⟩
        refine ⟨.int i, rfl, i, rfl, true, rfl, iteT ⟨_, rfl, _, rfl, rfl, ?_⟩⟩
        rw [decide_eq_true rfl]
        exact q0
      | str x =>
        refine ⟨.str x, rfl, rfl, _, rfl, iteF ⟨.str x, rfl, .str x, .ty "bool", .type "str", .type "bool", false, rfl, .ty _, .base (.str x), kit_ty (by decide +kernel), _, rfl, iteF ?_⟩⟩
        refine ⟨.str x, rfl, .str x, .ty "int", .type "str", .type "int", false, rfl, .ty _, .base (.str x), kit_ty (by decide +kernel), _, rfl, iteF ?_⟩
        refine ⟨.str x, rfl, .str x, .ty "str", .type "str", .type "str", true, rfl, .ty _, .base (.str x), kit_ty (by decide +kernel), _, rfl, iteT ?_⟩
        refine ⟨.str x, rfl, .str x, .ty "str", .type "str", .type "str", true, rfl, .ty _, .base (.str x), kit_ty (by decide +kernel), true, rfl, iteT ⟨_, rfl, _, rfl, rfl, ?_⟩⟩
        rw [decide_eq_true rfl]
        exact q0
      | @lst m a b xs ys ha hb hl hz hi =>
        refine ⟨.ref b, rfl, rfl, _, rfl, iteF ⟨.ref b, rfl, .ref b, .ty "bool", .type "list", .type "bool", false, rfl, .ty _, ty_list hb, kit_ty (by decide +kernel), _, rfl, iteF ?_⟩⟩
        refine ⟨.ref b, rfl, .ref b, .ty "int", .type "list", .type "int", false, rfl, .ty _, ty_list hb, kit_ty (by decide +kernel), _, rfl, iteF ?_⟩
        refine ⟨.ref b, rfl, .ref b, .ty "str", .type "list", .type "str", false, rfl, .ty _, ty_list hb, kit_ty (by decide +kernel), _, rfl, iteF ?_⟩
        refine ⟨.ref b, rfl, .ref b, .ty "tuple", .type "list", .type "tuple", false, rfl, .ty _, ty_list hb, kit_ty (by decide +kernel), .ref a, rfl, .ref a, .ty "tuple", .type "list", .type "tuple", false, rfl, .ty _, ty_list ha, kit_ty (by decide +kernel), rfl, _, rfl, iteF ?_⟩
        refine ⟨.ref b, rfl, .ref b, .ty "list", .type "list", .type "list", true, rfl, .ty _, ty_list hb, kit_ty (by decide +kernel), .ref a, rfl, .ref a, .ty "list", .type "list", .type "list", true, rfl, .ty _, ty_list ha, kit_ty (by decide +kernel), rfl, _, rfl, iteF ?_⟩
        refine ⟨.ref a, rfl, a, xs, rfl, .inl ha, .ref b, rfl, b, ys, rfl, .inl hb, rfl, _, rfl, ?_⟩
        rw [hl, decide_eq_true rfl]
        refine iteF ⟨.ref b, rfl, b, ys, rfl, .inl hb, (ys.length : Int), rfl, by omega, by omega, fun D nD => ?_⟩
        refine lc_range (lo := 0) (n := ys.length) (fun i H2 => Same H H2 ∧ H2 D = some (.lst ((List.replicate i true).map V.bl))) ⟨same_new nD, upd_same⟩ (fun i H2 hlt h => ?_) (fun H2 h => ?_)
        · obtain ⟨s2, h2⟩ := h
          have hx : xs[i]? = some (xs[i]'(by omega)) := List.getElem?_eq_getElem (by omega)
          have hy : ys[i]? = some ys[i] := List.getElem?_eq_getElem hlt
          have e0 : (0 + (i : Int)) = ((i : Nat) : Int) := Int.zero_add _
          refine ⟨rfl, .ref a, rfl, .int (0 + (i : Int)), rfl, .inl ⟨a, xs, 0 + (i : Int), _, rfl, rfl, s2.seq ha, at_of e0 hx, .ref b, rfl, .int (0 + (i : Int)), rfl, .inl ⟨b, ys, 0 + (i : Int), _, rfl, rfl, s2.seq hb, at_of e0 hy, _, _, rfl, (hi i _ _ hx hy).same s2, fun H3 s3 => ⟨_, s3 _ _ h2, ?_, same_put (s2.trans s3) nD, ?_⟩⟩⟩⟩
          · rw [List.length_map, List.length_replicate]
            exact Nat.lt_of_le_of_lt (by omega : i ≤ 1001) (by decide)
          · rw [upd_same, List.replicate_succ', List.map_append]
            rfl
        · obtain ⟨s2, h2⟩ := h
          refine ⟨D, List.replicate ys.length true, rfl, SqL.of h2, ?_⟩
          rw [all_true]
          exact q H2 s2
      | @tup m a b xs ys ha hb hl hz hi =>
        refine ⟨.ref b, rfl, rfl, _, rfl, iteF ⟨.ref b, rfl, .ref b, .ty "bool", .type "tuple", .type "bool", false, rfl, .ty _, ty_tup hb, kit_ty (by decide +kernel), _, rfl, iteF ?_⟩⟩
        refine ⟨.ref b, rfl, .ref b, .ty "int", .type "tuple", .type "int", false, rfl, .ty _, ty_tup hb, kit_ty (by decide +kernel), _, rfl, iteF ?_⟩
        refine ⟨.ref b, rfl, .ref b, .ty "str", .type "tuple", .type "str", false, rfl, .ty _, ty_tup hb, kit_ty (by decide +kernel), _, rfl, iteF ?_⟩
        refine ⟨.ref b, rfl, .ref b, .ty "tuple", .type "tuple", .type "tuple", true, rfl, .ty _, ty_tup hb, kit_ty (by decide +kernel), .ref a, rfl, .ref a, .ty "tuple", .type "tuple", .type "tuple", true, rfl, .ty _, ty_tup ha, kit_ty (by decide +kernel), rfl, _, rfl, iteF ?_⟩
        refine ⟨.ref b, rfl, .ref b, .ty "list", .type "tuple", .type "list", false, rfl, .ty _, ty_tup hb, kit_ty (by decide +kernel), .ref a, rfl, .ref a, .ty "list", .type "tuple", .type "list", false, rfl, .ty _, ty_tup ha, kit_ty (by decide +kernel), rfl, _, rfl, iteF ?_⟩
        refine ⟨.ref a, rfl, a, xs, rfl, .inr ha, .ref b, rfl, b, ys, rfl, .inr hb, rfl, _, rfl, ?_⟩
        rw [hl, decide_eq_true rfl]
        refine iteF ⟨.ref b, rfl, b, ys, rfl, .inr hb, (ys.length : Int), rfl, by omega, by omega, fun D nD => ?_⟩
        refine lc_range (lo := 0) (n := ys.length) (fun i H2 => Same H H2 ∧ H2 D = some (.lst ((List.replicate i true).map V.bl))) ⟨same_new nD, upd_same⟩ (fun i H2 hlt h => ?_) (fun H2 h => ?_)
        · obtain ⟨s2, h2⟩ := h
          have hx : xs[i]? = some (xs[i]'(by omega)) := List.getElem?_eq_getElem (by omega)
          have hy : ys[i]? = some ys[i] := List.getElem?_eq_getElem hlt
          have e0 : (0 + (i : Int)) = ((i : Nat) : Int) := Int.zero_add _
          refine ⟨rfl, .ref a, rfl, .int (0 + (i : Int)), rfl, .inr (.inl ⟨a, xs, 0 + (i : Int), _, rfl, rfl, Same.tup s2 ha, at_of e0 hx, .ref b, rfl, .int (0 + (i : Int)), rfl, .inr (.inl ⟨b, ys, 0 + (i : Int), _, rfl, rfl, Same.tup s2 hb, at_of e0 hy, _, _, rfl, (hi i _ _ hx hy).same s2, fun H3 s3 => ⟨_, s3 _ _ h2, ?_, same_put (s2.trans s3) nD, ?_⟩⟩)⟩)⟩
          · rw [List.length_map, List.length_replicate]
            exact Nat.lt_of_le_of_lt (by omega : i ≤ 1001) (by decide)
          · rw [upd_same, List.replicate_succ', List.map_append]
            rfl
        · obtain ⟨s2, h2⟩ := h
          refine ⟨D, List.replicate ys.length true, rfl, SqL.of h2, ?_⟩
          rw [all_true]
          exact q H2 s2
end
section
variable {P : Program} {w : World} {K : PySem.W.Frag} {mg : Str → Option Value} {base : Heap}
/-! _law_sums -/
abbrev sSU : Stmt := topS 43
theorem scSU : FnScope ["_law_row_here", "_law_found", "_law_sign"] ["_law_row_here"] (defScope sSU) := ⟨rfl, rfl, rfl, by decide +kernel, rfl, by decide +kernel, by decide +kernel⟩
def sumsN (l : List Nat) (n : Nat) : List Int := (List.range n).map fun i => (hiS (l.take i)).1
theorem sumsN_snoc (l : List Nat) (n : Nat) : sumsN l (n + 1) = sumsN l n ++ [(hiS (l.take n)).1] := by
  unfold sumsN
  rw [List.range_succ, List.map_append]
  rfl
theorem sumsN_len (l : List Nat) (n : Nat) : (sumsN l n).length = n := by simp [sumsN]
def spSU : Sp := fun vs H Q _ => ∃ x : Str, vs = [.str x] ∧ (tl x).length ≤ 1000 ∧ Pw.Pure (tl x) ∧ ∀ H' p, Same H H' → H p = none → H' p = some (.lst ((sums (tl x)).map V.int)) → Q (.ref p) H'
theorem ok_su {f : Addr} {fd : FuncData} {k : Nat} (F : Fun K "_law_sums" "_law_sums" sSU f fd) (mi : mg "int" = none) : FnOk P w K mg base CX0 (k + 1) f fd ["_law_row_here"] spSU := by
  refine F.ok scSU (fun vs H Q E h => ?_) (fun cdv A outer s H vs Q E hr h => ?_)
  · obtain ⟨x, rfl, _⟩ := h
    rfl
  · obtain ⟨x, rfl, hl, hp, q⟩ := h
    refine ⟨_, pss_cons (ps_set (i := 1) scSU.nd rfl (.inl rfl) (pe_lst (pa_cons pe_int pa_nil)))
      (pss_cons (ps_for PassesOwn.never rfl (pi_str (pv 0)) (pg_name (i := 2) scSU.nd rfl (.inl rfl))
        (pss_one (ps_expr (pe_bm PySem.F.plainAttrs_list PySem.F.slot_list_append PySem.F.type_list_append mt_append (pv 1)
          (pa_cons (pe_op op_sub (pe_op op_add (pe_ix ix_list (pv 1) (pe_un un_neg pe_int) (fun _ _ => rfl)) (pe_op op_mul pe_int (pe_callTy call_int_str (by rfl) mi (by decide +kernel) (pa_cons (pv 2) pa_nil)))) pe_int) pa_nil)))))
      (pss_one (ps_ret (pv 1)))), ?_⟩
    refine ⟨by show 1 ≤ sizeLine; decide, fun p np => ?_⟩
    refine ⟨.str x, rfl, x, rfl, for_str (x := x) (fun i σ H1 => (∃ y, σ = [some (.str x), some (.ref p), y]) ∧ Same H H1 ∧ H1 p = some (.lst ((sumsN (tl x) (i + 1)).map V.int))) ⟨⟨none, rfl⟩, same_new np, upd_same⟩ ?_ ?_⟩
    · rintro i c σ H1 hc ⟨⟨y, rfl⟩, sm, h1⟩
      have hc' : (tl x)[i]? = some c := by rw [← hc]; exact Array.getElem?_toList
      have hil : i < (tl x).length := (List.getElem?_eq_some_iff.mp hc').1
      have hcp := hp c (List.mem_of_getElem? hc')
      have e := hiS_snoc ((tl x).take i) c
      rw [← take_snoc hc'] at e
      have e1 : (hiS ((tl x).take (i + 1))).1 = Pw.step (hiS ((tl x).take i)).1 c := by rw [e]
      have hat : atI ((sumsN (tl x) (i + 1)).map V.int) (-1) = some (.int (hiS ((tl x).take i)).1) := by
        rw [sumsN_snoc, List.map_append]
        exact atI_last _ _
      have hz : ((sumsN (tl x) (i + 1)).map V.int).length < sizeLine := by
        rw [List.length_map, sumsN_len]
        exact small1000 (by omega)
      have fin : ∀ d : Int, (hiS ((tl x).take i)).1 + 2 * d - 1 = (hiS ((tl x).take (i + 1))).1 →
          (∃ y, ([some (.str x), some (.ref p), some (V.str ⟨#[c]⟩)] : L2.St) = [some (.str x), some (.ref p), y]) ∧ Same H (upd H1 p (.lst ((sumsN (tl x) (i + 1)).map V.int ++ [.int ((hiS ((tl x).take i)).1 + 2 * d - 1)]))) ∧
            upd H1 p (.lst ((sumsN (tl x) (i + 1)).map V.int ++ [.int ((hiS ((tl x).take i)).1 + 2 * d - 1)])) p = some (.lst ((sumsN (tl x) (i + 1 + 1)).map V.int)) := fun d hd => by
        refine ⟨⟨_, rfl⟩, same_put sm np, ?_⟩
        rw [upd_same, sumsN_snoc (tl x) (i + 1), List.map_append, hd]
        rfl
      refine ⟨.ref p, rfl, .inl ⟨rfl, _, SqL.of h1⟩, .ref p, rfl, 1, rfl, p, _, -1, .int (hiS ((tl x).take i)).1, rfl, rfl, SqL.of h1, hat, ?_⟩
      rcases hcp with rfl | rfl
      · refine ⟨_, rfl, ⟨#[48]⟩, 0, rfl, by decide +kernel, by decide, 2, 0, rfl, rfl, .inl ⟨by decide, by decide⟩, _, _, rfl, rfl, _, 1, rfl, rfl, p, _, _, rfl, rfl, h1, hz, fin 0 ?_⟩
        rw [e1]
        unfold Pw.step
        rw [if_neg (by decide)]
        omega
      · refine ⟨_, rfl, ⟨#[49]⟩, 1, rfl, by decide +kernel, by decide, 2, 1, rfl, rfl, .inl ⟨by decide, by decide⟩, _, _, rfl, rfl, _, 1, rfl, rfl, p, _, _, rfl, rfl, h1, hz, fin 1 ?_⟩
        rw [e1]
        unfold Pw.step
        rw [if_pos rfl]
        omega
    · rintro σ H1 ⟨⟨y, rfl⟩, sm, h1⟩
      have e : x.cps.size = (tl x).length := by simp
      rw [e] at h1
      exact ⟨_, rfl, q H1 p sm np h1⟩
end
section
variable {P : Program} {w : World} {K : PySem.W.Frag} {mg : Str → Option Value} {base : Heap}
/-! _law_odd_row -/
abbrev sOR : Stmt := topS 52
theorem scOR : FnScope ["_law_draw", "_law_many", "_law_row_here", "_law_at"] ["_law_draw", "_law_many"] (defScope sOR) := ⟨rfl, rfl, rfl, by decide +kernel, rfl, by decide +kernel, by decide +kernel⟩
def spOR : Sp := fun vs H Q _ => ∃ (p q : Addr) (ns : List Int) (n : Nat), vs = [.ref p, .int (n : Nat)] ∧ n ≤ 400 ∧ Dr p q ns H ∧ ∀ (x : Str) H', (tl x).length ≤ 1000 → SameX p H H' → Dr p q ns H' → Q (.str x) H'
theorem ok_or {f fW : Addr} {fd fdW : FuncData} (F : Fun K "_law_odd_row" "_law_odd_row" sOR f fd) (B : BN mg) (R : PUOk P w K mg base) (GW : FnOk P w K mg base CX0 2 fW fdW ["_law_draw", "_law_many"] spRO) (wm : mg "_law_row" = some (.ref fW)) (wk : PySem.W.keepIn K (.ref fW) = true) (wb : Binds K fdW ["_law_draw", "_law_many"] []) :
    FnOk P w K mg base CX0 3 f fd ["_law_draw", "_law_many"] spOR := by
  obtain ⟨fR, fdR, G, gm, gk, gb⟩ := R.ex
  refine F.ok scOR (fun vs H Q E h => ?_) (fun cdv A outer s H vs Q E hr h => ?_)
  · obtain ⟨p, q, ns, n, rfl, _⟩ := h
    rfl
  · obtain ⟨p, q, ns, n, rfl, hn, hD, k⟩ := h
    have hr1 : Room 1 _ := hr.mono (by decide)
    refine ⟨_, pss_cons (ps_set (i := 2) scOR.nd rfl (.inl rfl) (pe_call GW hr rfl wm wk wb .nil pass0 (pa_cons (pv 0) (pa_cons (pe_call G hr1 rfl gm gk gb .nil pass0 (pa_cons (pv 0) (pa_cons (pe_op op_add (pv 1) pe_int) pa_nil))) pa_nil))))
      (pss_cons (ps_if (pt_cmpR op_gt (pe_call G hr1 rfl gm gk gb .nil pass0 (pa_cons (pv 0) (pa_cons pe_int pa_nil))) pe_int (nomark _)) (pss_one (ps_ret (pv 2))) pss_nil)
      (pss_cons (ps_set (i := 3) scOR.nd rfl (.inl rfl) (pe_call G hr1 rfl gm gk gb .nil pass0 (pa_cons (pv 0) (pa_cons (pe_op op_add (pe_callB call_len_str (by rfl) B.len PySem.boot_len (pa_cons (pv 2) pa_nil)) pe_int) pa_nil))))
      (pss_one (ps_ret (pe_op op_add_str (pe_op op_add_str (pe_slice sl_str (pv 2) po_none (po_some (pv 3))) (pe_ix ix_str pe_str (pe_call G hr1 rfl gm gk gb .nil pass0 (pa_cons (pv 0) (pa_cons pe_int pa_nil))) (fun _ _ => rfl)))
        (pe_slice sl_str (pv 2) (po_some (pe_op op_add (pv 3) (pe_call G hr1 rfl gm gk gb .nil pass0 (pa_cons (pv 0) (pa_cons pe_int pa_nil))))) po_none)))))), ?_⟩
    refine ⟨.ref p, rfl, .ref p, rfl, _, rfl, _, 1, rfl, rfl, p, q, ns, (n : Int) + 1, rfl, by omega, by omega, hD, fun v H1 h0 h1 sx1 hD1 => ?_⟩
    have ev : v = ((v.toNat : Nat) : Int) := by omega
    refine ⟨p, q, ns, v.toNat, ?_, by omega, hD1, fun x H2 hx hxl sx2 hD2 => ?_⟩
    · rw [← ev]
      rfl
    have hz : x.length ≤ sizeLine := by
      rw [len_tl, hxl]
      exact Nat.le_trans (by omega : v.toNat ≤ 1000) (by decide)
    refine ⟨.ref p, rfl, p, q, ns, 3, rfl, by decide, by decide, hD2, fun v2 H3 _ _ sx3 hD3 => ?_⟩
    refine ⟨v2, 0, rfl, rfl, _, rfl, ite2 (fun _ => ?_) (fun _ => ?_)⟩
    · exact ⟨_, rfl, k x H3 (by omega) ((sx1.trans sx2).trans sx3) hD3⟩
    · refine ⟨.ref p, rfl, _, rfl, x, rfl, hz, _, 1, rfl, rfl, p, q, ns, (x.length : Int) + 1, rfl, by omega, ?_, hD3, fun v3 H4 _ _ sx4 hD4 => ?_⟩
      · rw [len_tl]
        omega
      refine ⟨_, rfl, _, rfl, v3, rfl, x, rfl, hz, .ref p, rfl, p, q, ns, 8, rfl, by decide, by decide, hD4, fun v4 H5 h40 h41 sx5 hD5 => ?_⟩
      have hc : ∃ c, atI (Str.ofString "2 -a?A/\n").cps.toList v4 = some c := by
        have e8 : v4 = 0 ∨ v4 = 1 ∨ v4 = 2 ∨ v4 = 3 ∨ v4 = 4 ∨ v4 = 5 ∨ v4 = 6 ∨ v4 = 7 := by omega
        rcases e8 with rfl | rfl | rfl | rfl | rfl | rfl | rfl | rfl <;> exact ⟨_, rfl⟩
      obtain ⟨c, hc⟩ := hc
      have l1 := cutS_length x none (some v3)
      refine ⟨_, v4, c, rfl, rfl, by decide, hc, _, _, rfl, rfl, ?_, ?_⟩
      · show (cutS x none (some v3)).length + 1 ≤ sizeLine
        rw [len_tl x] at l1
        exact Nat.le_trans (by omega : _ ≤ 1002) (by decide)
      · refine ⟨_, rfl, _, rfl, .ref p, rfl, p, q, ns, 2, rfl, by decide, by decide, hD5, fun v5 H6 _ _ sx6 hD6 => ?_⟩
        have l2 := cutS_length x (some (v3 + v5)) none
        have l3 : (cutS x none (some v3) ++ (⟨#[c]⟩ : Str)).length = (cutS x none (some v3)).length + 1 := by
          rw [len_tl, tl_append, List.length_append, ← len_tl]
          rfl
        rw [len_tl x] at l1 l2
        refine ⟨v3, v5, rfl, rfl, v3 + v5, rfl, x, rfl, hz, _, _, rfl, rfl, ?_, k _ H6 ?_ (((((sx1.trans sx2).trans sx3).trans sx4).trans sx5).trans sx6) hD6⟩
        · rw [l3]
          exact Nat.le_trans (by omega : _ ≤ 2002) (by decide)
        · rw [tl_append, List.length_append, ← len_tl, ← len_tl, l3]
          omega
end
end K05

set_option Elab.async false
set_option linter.all false
set_option maxRecDepth 100000
set_option maxHeartbeats 4000000
namespace K05
open PySem PySem.Spec PyProof.Rows L2 Pw TL
section
variable {P : Program} {w : World} {K : PySem.W.Frag} {mg : Str → Option Value} {base : Heap}
theorem pure_ok {x : Str} (h : Pw.Pure (tl x)) : PyData.strOk x = true := by
  unfold PyData.strOk
  rw [Array.all_eq_true_iff_forall_mem]
  intro c hc
  have h2 := h c (Array.mem_toList_iff.mpr hc)
  rcases h2 with rfl | rfl <;> decide
theorem word_of {x : Str} (h : Pw.Pure (tl x)) (h1 : 1 ≤ (tl x).length) (h5 : (tl x).length ≤ 5) : wordB x = true := by
  unfold wordB
  rw [strange_none h, decide_eq_true ⟨h1, h5⟩]
  rfl
theorem eqV_str (a b : Str) : eqV (.str a) (.str b) = true ↔ a = b := by
  show (a == b) = true ↔ a = b
  exact beq_iff_eq
theorem inV_str (x : Str) (xs : List Str) : inV (.str x) (xs.map V.str) = true ↔ x ∈ xs := by
  unfold inV
  rw [List.any_eq_true]
  constructor
  · rintro ⟨y, h1, h2⟩
    obtain ⟨z, h3, rfl⟩ := List.mem_map.mp h1
    have := (eqV_str z x).mp h2
    rw [← this]
    exact h3
  · intro h
    exact ⟨.str x, List.mem_map.mpr ⟨x, h, rfl⟩, (eqV_str x x).mpr rfl⟩
/-! _law_word -/
abbrev sWD : Stmt := topS 46
theorem scWD : FnScope ["_law_draw"] ["_law_draw"] (defScope sWD) := ⟨rfl, rfl, rfl, by decide +kernel, rfl, by decide +kernel, by decide +kernel⟩
def spWD : Sp := fun vs H Q _ => ∃ (p q : Addr) (ns : List Int), vs = [.ref p] ∧ Dr p q ns H ∧ ∀ (x : Str) H', (tl x).length ≤ 5 → PyData.strOk x = true → wordB x = true → SameX p H H' → Dr p q ns H' → Q (.str x) H'
theorem Dr.nn {p q : Addr} {ns : List Int} {H : Hp} (h : Dr p q ns H) {a : Addr} (n : H a = none) : a ≠ p := fun e => by
  obtain ⟨_, _, _, _, hp, _⟩ := h
  rw [e, hp] at n
  cases n
theorem ok_wd {f fW : Addr} {fd fdW : FuncData} (F : Fun K "_law_word" "_law_word" sWD f fd) (R : PUOk P w K mg base) (GW : FnOk P w K mg base CX0 2 fW fdW ["_law_draw", "_law_many"] spRO) (wm : mg "_law_row" = some (.ref fW)) (wk : PySem.W.keepIn K (.ref fW) = true) (wb : Binds K fdW ["_law_draw", "_law_many"] []) :
    FnOk P w K mg base CX0 3 f fd ["_law_draw"] spWD := by
  obtain ⟨fR, fdR, G, gm, gk, gb⟩ := R.ex
  refine F.ok scWD (fun vs H Q E h => ?_) (fun cdv A outer s H vs Q E hr h => ?_)
  · obtain ⟨p, q, ns, rfl, _⟩ := h
    rfl
  · obtain ⟨p, q, ns, rfl, hD, k⟩ := h
    have hr1 : Room 1 _ := hr.mono (by decide)
    refine ⟨_, pss_one (ps_ret (pe_call GW hr rfl wm wk wb .nil pass0 (pa_cons (pv 0) (pa_cons (pe_op op_add pe_int (pe_call G hr1 rfl gm gk gb .nil pass0 (pa_cons (pv 0) (pa_cons (pe_ix ix_tup (pe_tup (pa_cons pe_int (pa_cons pe_int pa_nil))) (pe_call G hr1 rfl gm gk gb .nil pass0 (pa_cons (pv 0) (pa_cons pe_int pa_nil))) (fun _ _ => rfl)) pa_nil)))) pa_nil)))), ?_⟩
    refine ⟨.ref p, rfl, .ref p, rfl, by show 2 ≤ sizeLine; decide, fun T nT => ?_⟩
    have hD0 : Dr p q ns (upd H T (.tup [.int 3, .int 5])) := hD.same (same_new nT)
    have sx0 : SameX p H (upd H T (.tup [.int 3, .int 5])) := SameX.of (same_new nT)
    refine ⟨.ref p, rfl, p, q, ns, 2, rfl, by decide, by decide, hD0, fun v H1 v0 v1 sx1 hD1 => ?_⟩
    have hT : H1 T = some (.tup [.int 3, .int 5]) := sx1 _ _ upd_same (hD.nn nT)
    have hm : ∃ m : Int, atI [V.int 3, V.int 5] v = some (.int m) ∧ 0 < m ∧ m ≤ 5 := by
      have : v = 0 ∨ v = 1 := by omega
      rcases this with rfl | rfl
      · exact ⟨3, rfl, by decide, by decide⟩
      · exact ⟨5, rfl, by decide, by decide⟩
    obtain ⟨m, hm, m0, m5⟩ := hm
    refine ⟨T, _, v, .int m, rfl, rfl, .inl (.inl hT), hm, p, q, ns, m, rfl, m0, by omega, hD1, fun u H2 u0 u1 sx2 hD2 => ?_⟩
    have ev : (1 : Int) + u = (((1 + u).toNat : Nat) : Int) := by omega
    refine ⟨1, u, rfl, rfl, p, q, ns, (1 + u).toNat, ?_, by omega, hD2, fun x H3 hx hxl sx3 hD3 => ?_⟩
    · rw [← ev]
      rfl
    · exact k x H3 (by omega) (pure_ok hx) (word_of hx (by omega) (by omega)) (((sx0.trans sx1).trans sx2).trans sx3) hD3
theorem Dr.upd {p q l : Addr} {ns : List Int} {H : Hp} {o : HO} (h : Dr p q ns H) (n1 : l ≠ p) (n2 : l ≠ q) : Dr p q ns (L2.upd H l o) :=
  ⟨by rw [upd_ne n2.symm]; exact h.1, let ⟨a, b, c, e, r⟩ := h.2; ⟨a, b, c, by rw [upd_ne n1.symm]; exact e, r⟩⟩
/-! _law_words -/
abbrev sWS : Stmt := topS 47
theorem scWS : FnScope ["_law_draw", "_law_most", "_law_found", "_law_many", "_law_k", "_law_word_here"] ["_law_draw", "_law_most"] (defScope sWS) := ⟨rfl, rfl, rfl, by decide +kernel, rfl, by decide +kernel, by decide +kernel⟩
def Short (xs : List Str) : Prop := ∀ x ∈ xs, (tl x).length ≤ 1000 ∧ PyData.strOk x = true
def Good (xs : List Str) : Prop := xs.Nodup ∧ ∀ x ∈ xs, wordB x = true
def ShortG (xs : List Str) : Prop := Short xs ∧ Good xs
def spWS : Sp := fun vs H Q _ => ∃ (p q : Addr) (ns : List Int) (n : Nat), vs = [.ref p, .int (n : Nat)] ∧ n ≤ 20 ∧ Dr p q ns H ∧ ∀ (l : Addr) (xs : List Str) H', xs.length ≤ 6 → ShortG xs → H l = none → H' l = some (.lst (xs.map V.str)) → SameX p H H' → Dr p q ns H' → Q (.ref l) H'
theorem flat_strs (xs : List Str) : (xs.map V.str).all flatV = true := by
  induction xs with
  | nil => rfl
  | cons x r ih =>
    rw [List.map_cons, List.all_cons, ih]
    rfl
theorem ok_ws {f fW : Addr} {fd fdW : FuncData} (F : Fun K "_law_words" "_law_words" sWS f fd) (B : BN mg) (R : PUOk P w K mg base) (GW : FnOk P w K mg base CX0 3 fW fdW ["_law_draw"] spWD) (wm : mg "_law_word" = some (.ref fW)) (wk : PySem.W.keepIn K (.ref fW) = true) (wb : Binds K fdW ["_law_draw"] []) :
    FnOk P w K mg base CX0 4 f fd ["_law_draw", "_law_most"] spWS := by
  obtain ⟨fR, fdR, G, gm, gk, gb⟩ := R.ex
  refine F.ok scWS (fun vs H Q E h => ?_) (fun cdv A outer s H vs Q E hr h => ?_)
  · obtain ⟨p, q, ns, n, rfl, _⟩ := h
    rfl
  · obtain ⟨p, q, ns, n, rfl, hn, hD, k⟩ := h
    have hr1 : Room 1 _ := hr.mono (by decide)
    refine ⟨_, pss_cons (ps_set (i := 2) scWS.nd rfl (.inl rfl) (pe_lst pa_nil))
      (pss_cons (ps_set (i := 3) scWS.nd rfl (.inl rfl) (pe_op op_add (pe_call G hr1 rfl gm gk gb .nil pass0 (pa_cons (pv 0) (pa_cons (pe_op op_add (pv 1) pe_int) pa_nil)))
        (pe_op op_mul pe_int (pe_callTy call_int1 (by rfl) B.int (by decide +kernel) (pa_cons (pe_cmpR op_eq (pe_call G hr1 rfl gm gk gb .nil pass0 (pa_cons (pv 0) (pa_cons pe_int pa_nil))) pe_int (nomark _)) pa_nil)))))
      (pss_cons (ps_for PassesOwn.never rfl (pi_range1 rfl B.rng (pa_cons (pv 3) pa_nil)) (pg_name (i := 4) scWS.nd rfl (.inl rfl))
        (pss_cons (ps_set (i := 5) scWS.nd rfl (.inl rfl) (pe_call GW hr rfl wm wk wb .nil pass0 (pa_cons (pv 0) pa_nil)))
        (pss_one (ps_if (PW.pt (pw_and (pt_cmpR op_notIn_seq (pv 5) (pv 2) (by rfl)) (pw_and1 (pt_cmpR op_gt (pe_callB call_len_str (by rfl) B.len PySem.boot_len (pa_cons (pv 5) pa_nil)) pe_int (nomark _)))))
          (pss_one (ps_expr (pe_bm PySem.F.plainAttrs_list PySem.F.slot_list_append PySem.F.type_list_append mt_append (pv 2) (pa_cons (pv 5) pa_nil)))) pss_nil))))
      (pss_one (ps_ret (pe_slice sl_list (pv 2) po_none (po_some pe_int)))))), ?_⟩
    refine ⟨by show 0 ≤ sizeLine; decide, fun l nl => ?_⟩
    have lp : l ≠ p := hD.nn nl
    have hD0 : Dr p q ns (upd H l (.lst [])) := hD.same (same_new nl)
    refine ⟨.ref p, rfl, _, rfl, _, 1, rfl, rfl, p, q, ns, (n : Int) + 1, rfl, by omega, by omega, hD0, fun v H1 v0 v1 sx1 hD1 => ?_⟩
    refine ⟨.ref p, rfl, p, q, ns, 8, rfl, by decide, by decide, hD1, fun u H2 _ _ sx2 hD2 => ?_⟩
    obtain ⟨m, em, hm⟩ : ∃ m : Nat, v + 2 * (if decide (V.int u = V.int 0) = true then (1 : Int) else 0) = (m : Int) ∧ m ≤ 22 := by
      refine ⟨(v + 2 * (if decide (V.int u = V.int 0) = true then (1 : Int) else 0)).toNat, ?_, ?_⟩ <;> split <;> omega
    refine ⟨rfl, .inr ⟨_, rfl, 2, _, rfl, rfl, ?_, v, _, rfl, rfl, ?_⟩⟩
    · exact .inl ⟨by decide, by decide⟩
    dsimp only
    rw [em]
    have sx : SameX p (upd H l (.lst [])) H2 := sx1.trans sx2
    have nlp : upd H l (.lst []) l = some (.lst (([] : List Str).map V.str)) := upd_same
    refine ⟨_, rfl, (m : Int), rfl, by omega, by omega, for_range (lo := 0) (n := m) (fun i σ H3 => (∃ y4 y5, σ = [some (.ref p), some (.int (n : Nat)), some (.ref l), some (.int (m : Nat)), y4, y5]) ∧ Dr p q ns H3 ∧ (∃ xs : List Str, H3 l = some (.lst (xs.map V.str)) ∧ xs.length ≤ i ∧ ShortG xs) ∧ (∀ b o, H b = some o → b ≠ p → H3 b = some o))
      ⟨⟨none, none, rfl⟩, hD2, ⟨[], sx _ _ nlp lp, Nat.le_refl _, (fun x hx => nomatch hx), List.nodup_nil, fun x hx => nomatch hx⟩, fun b o e ne => sx b o ((same_new nl) b o e) ne⟩ (fun i σ H3 _ h => ?_) (fun σ H3 h => ?_)⟩
    · obtain ⟨⟨y4, y5, rfl⟩, hD3, ⟨xs, hl3, hxi, hxs⟩, fr⟩ := h
      refine ⟨.ref p, rfl, p, q, ns, rfl, hD3, fun x H4 hx hok4 hwx sx4 hD4 => ?_⟩
      have hl4 : H4 l = some (.lst (xs.map V.str)) := sx4 _ _ hl3 lp
      have hz : x.length ≤ sizeLine := by
        rw [len_tl]
        exact Nat.le_of_lt (small1000 (by omega))
      have out : (∃ y4 y5, [some (V.ref p), some (.int (n : Nat)), some (.ref l), some (.int (m : Nat)), some (.int (0 + (i : Int))), some (.str x)] = [some (V.ref p), some (.int (n : Nat)), some (.ref l), some (.int (m : Nat)), y4, y5]) ∧ Dr p q ns H4 ∧ (∃ xs : List Str, H4 l = some (.lst (xs.map V.str)) ∧ xs.length ≤ i + 1 ∧ ShortG xs) ∧ (∀ b o, H b = some o → b ≠ p → H4 b = some o) :=
        ⟨⟨_, _, rfl⟩, hD4, ⟨xs, hl4, by omega, hxs⟩, fun b o e ne => sx4 b o (fr b o e ne) ne⟩
      refine ⟨_, rfl, _, rfl, l, _, rfl, .inl (SqL.of hl4), rfl, flat_strs xs, _, rfl, ite2 (fun hni => ?_) (fun _ => iteF out)⟩
      have hni' : x ∉ xs := fun z => by
        have h1 := (inV_str x xs).mpr z
        have h2 : (!inV (.str x) (xs.map V.str)) = true := hni
        rw [h1] at h2
        cases h2
      refine ⟨_, rfl, x, rfl, hz, _, _, rfl, rfl, _, rfl, ite2 (fun _ => ?_) (fun _ => out)⟩
      refine ⟨.ref l, rfl, .inl ⟨rfl, _, SqL.of hl4⟩, _, rfl, l, _, _, rfl, rfl, hl4, ?_, ?_⟩
      · rw [List.length_map]
        exact small1000 (by omega)
      · refine ⟨⟨_, _, rfl⟩, ?_, ⟨xs ++ [x], ?_, ?_, ?_⟩, fun b o e ne => ?_⟩
        · exact hD4.upd lp (ne_of_none hD.1 nl).symm
        · rw [upd_same, List.map_append]
          rfl
        · rw [List.length_append]
          show xs.length + 1 ≤ i + 1
          omega
        · refine ⟨fun z hz2 => ?_, ?_, fun z hz2 => ?_⟩
          · rcases List.mem_append.mp hz2 with h | h
            · exact hxs.1 z h
            · rw [List.mem_singleton.mp h]
              exact ⟨by omega, hok4⟩
          · rw [List.nodup_append]
            refine ⟨hxs.2.1, List.nodup_cons.mpr ⟨(fun z => nomatch z), List.nodup_nil⟩, fun a ha b hb e => ?_⟩
            rw [List.mem_singleton.mp hb] at e
            exact hni' (e ▸ ha)
          · rcases List.mem_append.mp hz2 with h | h
            · exact hxs.2.2 z h
            · rw [List.mem_singleton.mp h]
              exact hwx
        · rw [upd_ne (ne_of_none e nl)]
          exact sx4 b o (fr b o e ne) ne
    · obtain ⟨⟨y4, y5, rfl⟩, hD3, ⟨xs, hl3, hxi, hxs⟩, fr⟩ := h
      refine ⟨.ref l, rfl, 6, rfl, l, _, rfl, SqL.of hl3, fun t nt => ?_⟩
      have ec : cutV (xs.map V.str) none (some 6) = (xs.take 6).map V.str := by
        unfold cutV
        rw [show HT.sIx (xs.map V.str).length (xs.map V.str).length (some 6) = min 6 (xs.map V.str).length from HT.sIx_nat _ _ 6]
        show List.take (min 6 (xs.map V.str).length - 0) (xs.map V.str) = _
        rw [Nat.sub_zero, List.map_take]
        exact (List.take_eq_take_min).symm
      rw [ec]
      have tH : H t = none := by
        cases e : H t with
        | none => rfl
        | some o =>
          by_cases ht : t = p
          · exact absurd ht (hD3.nn nt)
          · rw [fr t o e ht] at nt
            cases nt
      refine k t (xs.take 6) _ ?_ ⟨fun z hz => hxs.1 z (List.mem_of_mem_take hz), hxs.2.1.sublist (List.take_sublist _ _), fun z hz => hxs.2.2 z (List.mem_of_mem_take hz)⟩ tH upd_same ?_ (hD3.same (same_new nt))
      · rw [List.length_take]
        omega
      · exact SameX.new (fun b o e ne => fr b o e ne) nt
end
end K05

set_option Elab.async false
set_option linter.all false
set_option maxRecDepth 100000
set_option maxHeartbeats 4000000
namespace K05
open PySem PySem.Spec PyProof.Rows L2 Pw TL
section
variable {P : Program} {w : World} {K : PySem.W.Frag} {mg : Str → Option Value} {base : Heap}
/-- since H only the draw has moved on, and new things were made -/
structure Go (p q : Addr) (ns : List Int) (H H1 : Hp) : Prop where
  sx : SameX p H H1
  dr : Dr p q ns H1
theorem Go.refl {p q : Addr} {ns : List Int} {H : Hp} (h : Dr p q ns H) : Go p q ns H H := ⟨SameX.refl p H, h⟩
theorem Go.next {p q : Addr} {ns : List Int} {H H1 H2 : Hp} (g : Go p q ns H H1) (s : SameX p H1 H2) (d : Dr p q ns H2) : Go p q ns H H2 := ⟨g.sx.trans s, d⟩
theorem Go.new {p q T : Addr} {ns : List Int} {H H1 : Hp} {o : HO} (g : Go p q ns H H1) (n : H1 T = none) : Go p q ns H (upd H1 T o) := ⟨g.sx.new n, g.dr.same (same_new n)⟩
theorem Go.free {p q T : Addr} {ns : List Int} {H H1 : Hp} (g : Go p q ns H H1) (n : H1 T = none) : H T = none := by
  cases e : H T with
  | none => rfl
  | some o =>
    by_cases h : T = p
    · exact absurd h (g.dr.nn n)
    · rw [g.sx T o e h] at n
      cases n
theorem Go.keep {p q T : Addr} {ns : List Int} {H H1 : Hp} {o : HO} (g : Go p q ns H H1) (e : H T = some o) (n : T ≠ p) : H1 T = some o := g.sx T o e n
/-! _law_parts -/
abbrev sPA : Stmt := topS 48
theorem scPA : FnScope ["_law_draw", "_law_way", "_law_least", "_law_upper", "_law_bars", "_law_wide"] ["_law_draw"] (defScope sPA) := ⟨rfl, rfl, rfl, by decide +kernel, rfl, by decide +kernel, by decide +kernel⟩
/-- four parts as a tuple at T, its words as a tuple at t -/
def Parts (H : Hp) (T t : Addr) (xs : List Str) (lo : Int) (hi wd : Option Int) : Prop := H T = some (.tup [.ref t, .int lo, vI hi, vI wd]) ∧ H t = some (.tup (xs.map V.str))
def spPA (N : Nat) : Sp := fun vs H Q _ => ∃ (p q : Addr) (ns : List Int), vs = [.ref p] ∧ Dr p q ns H ∧ ∀ (T t : Addr) (xs : List Str) (lo : Int) (hi wd : Option Int) H', xs.length ≤ N → ShortG xs → sortedS xs = true → partBad xs lo hi wd = none → H T = none → H t = none → Parts H' T t xs lo hi wd → Go p q ns H H' → Q (.ref T) H'
theorem parts_ok {xs : List Str} {lo : Int} {hi wd : Option Int} (h6 : xs.length ≤ 6) (hg : Good xs) (l0 : 0 ≤ lo) (l4 : lo < 4) (hh : ∀ h, hi = some h → max 1 lo ≤ h ∧ h ≤ 7) (hw : ∀ k, wd = some k → 1 ≤ k ∧ k ≤ 4) : partBad xs lo hi wd = none := by
  have e1 : wordsB xs = true := by
    unfold wordsB
    rw [decide_eq_true h6, decide_eq_true ((cntD_nodup xs).mpr hg.1)]
    exact List.all_eq_true.mpr hg.2
  have e2 : lowB lo = true := decide_eq_true ⟨l0, by omega⟩
  have e3 : highB lo hi = true := by
    cases hi with
    | none => rfl
    | some h => exact decide_eq_true (hh h rfl)
  have e4 : spanB wd = true := by
    cases wd with
    | none => rfl
    | some h => exact decide_eq_true (hw h rfl)
  unfold partBad
  rw [if_pos e1, if_pos e2, if_pos e3, if_pos e4]
def inTup (ps : List Int) (v : Int) : Bool := inV (.int v) (ps.map V.int)
theorem flat_ints (xs : List Int) : (xs.map V.int).all flatV = true := by
  induction xs with
  | nil => rfl
  | cons x r ih =>
    rw [List.map_cons, List.all_cons, ih]
    rfl
theorem ok_pa {f fW : Addr} {fd fdW : FuncData} (F : Fun K "_law_parts" "_law_parts" sPA f fd) (B : BN mg) (ms : mg "sorted" = none) (R : PUOk P w K mg base) (GW : FnOk P w K mg base CX0 4 fW fdW ["_law_draw", "_law_most"] spWS) (wm : mg "_law_words" = some (.ref fW)) (wk : PySem.W.keepIn K (.ref fW) = true) (wb : Binds K fdW ["_law_draw", "_law_most"] []) :
    FnOk P w K mg base CX0 5 f fd ["_law_draw"] (spPA 6) := by
  obtain ⟨fR, fdR, G, gm, gk, gb⟩ := R.ex
  refine F.ok scPA (fun vs H Q E h => ?_) (fun cdv A outer s H vs Q E hr h => ?_)
  · obtain ⟨p, q, ns, rfl, _⟩ := h
    rfl
  · obtain ⟨p, q, ns, rfl, hD, k⟩ := h
    have hr1 : Room 1 _ := hr.mono (by decide)
    refine ⟨_, pss_cons (ps_set (i := 1) scPA.nd rfl (.inl rfl) (pe_call G hr1 rfl gm gk gb .nil pass0 (pa_cons (pv 0) (pa_cons pe_int pa_nil))))
      (C8.pss_cut (ps_set (i := 2) scPA.nd rfl (.inl rfl) (pe_ifExp (pt_cmpR op_in_seq (pv 1) (pe_tup (pa_cons pe_int (pa_cons pe_int (pa_cons pe_int (pa_cons pe_int (pa_cons pe_int pa_nil)))))) (by rfl)) (pe_call G hr1 rfl gm gk gb .nil pass0 (pa_cons (pv 0) (pa_cons pe_int pa_nil))) pe_int))
      (pss_cons (ps_set (i := 3) scPA.nd rfl (.inl rfl) pe_non)
      (C8.pss_cut (ps_if (PW.pt (pw_or (pt_cmpR op_in_seq (pv 1) (pe_tup (pa_cons pe_int (pa_cons pe_int (pa_cons pe_int pa_nil)))) (by rfl)) (pw_or1 (PW.pt (pw_and (pt_cmpR op_in_seq (pv 1) (pe_tup (pa_cons pe_int (pa_cons pe_int (pa_cons pe_int pa_nil)))) (by rfl))
          (pw_and1 (pt_cmpR op_eq (pe_call G hr1 rfl gm gk gb .nil pass0 (pa_cons (pv 0) (pa_cons pe_int pa_nil))) pe_int (nomark _))))))))
        (pss_one (ps_set (i := 3) scPA.nd rfl (.inl rfl) (pe_op op_add (pe_callB (call_max2 rfl) (by rfl) B.max (by decide +kernel) (pa_cons pe_int (pa_cons (pv 2) pa_nil))) (pe_call G hr1 rfl gm gk gb .nil pass0 (pa_cons (pv 0) (pa_cons (pe_op op_sub pe_int (pe_callB (call_max2 rfl) (by rfl) B.max (by decide +kernel) (pa_cons pe_int (pa_cons (pv 2) pa_nil)))) pa_nil)))))) pss_nil)
      (C8.pss_cut (ps_set (i := 4) scPA.nd rfl (.inl rfl) (pe_ifExp (pt_cmpR op_in_seq (pv 1) (pe_tup (pa_cons pe_int (pa_cons pe_int (pa_cons pe_int (pa_cons pe_int (pa_cons pe_int pa_nil)))))) (by rfl)) (pe_call GW hr rfl wm wk wb .nil pass0 (pa_cons (pv 0) (pa_cons pe_int pa_nil))) (pe_lst pa_nil)))
      (C8.pss_cut (ps_set (i := 5) scPA.nd rfl (.inl rfl) (pe_ifExp (pt_cmpR op_in_seq (pv 1) (pe_tup (pa_cons pe_int (pa_cons pe_int (pa_cons pe_int (pa_cons pe_int pa_nil))))) (by rfl)) (pe_op op_add pe_int (pe_call G hr1 rfl gm gk gb .nil pass0 (pa_cons (pv 0) (pa_cons pe_int pa_nil)))) pe_non))
      (pss_one (ps_ret (pe_tup (pa_cons (pe_callTy call_tuple_of (by rfl) B.tup (by decide +kernel) (pa_cons (pe_callB cr_sortedS (by rfl) ms (by decide +kernel) (pa_cons (pv 4) pa_nil)) pa_nil)) (pa_cons (pv 2) (pa_cons (pv 3) (pa_cons (pv 5) pa_nil)))))))))))), ?_⟩
    refine ⟨.ref p, rfl, p, q, ns, 10, rfl, by decide, by decide, hD, fun v H1 v0 v1 sx1 hD1 => ?_⟩
    have g1 := (Go.refl hD).next sx1 hD1
    refine ⟨fun σ H2 => (∃ lo : Int, 0 ≤ lo ∧ lo < 4 ∧ σ = [some (.ref p), some (.int v), some (.int lo), none, none, none]) ∧ Go p q ns H H2, ?_, ?_⟩
    · refine ⟨.int v, rfl, by show 5 ≤ sizeLine; decide, fun T nT => ?_⟩
      have g2 := g1.new (o := .tup [.int 0, .int 1, .int 2, .int 8, .int 9]) nT
      refine ⟨T, _, rfl, .inr (.inl (.inl upd_same)), rfl, flat_ints [0, 1, 2, 8, 9], _, rfl, ite2 (fun _ => ?_) (fun _ => ?_)⟩
      · exact ⟨.ref p, rfl, p, q, ns, 4, rfl, by decide, by decide, g2.dr, fun u H3 u0 u1 sx3 hD3 => ⟨⟨u, u0, u1, rfl⟩, g2.next sx3 hD3⟩⟩
      · exact ⟨⟨0, by decide, by decide, rfl⟩, g2⟩
    rintro σ H2 ⟨⟨lo, lo0, lo4, rfl⟩, g2⟩
    refine ⟨fun σ H3 => (∃ hi : Option Int, (∀ h, hi = some h → max 1 lo ≤ h ∧ h ≤ 7) ∧ σ = [some (.ref p), some (.int v), some (.int lo), some (vI hi), none, none]) ∧ Go p q ns H H3, ?_, ?_⟩
    · refine ⟨.int v, rfl, by show 3 ≤ sizeLine; decide, fun T nT => ?_⟩
      have g3 := g2.new (o := .tup [.int 0, .int 2, .int 6]) nT
      refine ⟨T, _, rfl, .inr (.inl (.inl upd_same)), rfl, flat_ints [0, 2, 6], _, rfl, ite2 (fun _ => ?_) (fun _ => ?_)⟩
      · refine iteT ?_
        refine ⟨_, rfl, 1, lo, rfl, .ref p, rfl, _, rfl, 1, lo, rfl, 8, _, rfl, rfl, p, q, ns, _, rfl, ?_, ?_, g3.dr, fun u H5 u0 u1 sx5 hD5 => ⟨_, _, rfl, rfl, ⟨some _, (fun h e => ?_), rfl⟩, g3.next sx5 hD5⟩⟩
        · split <;> omega
        · split <;> omega
        · rw [← Option.some.inj e]
          split at u1 <;> split <;> omega
      · refine ⟨.int v, rfl, by show 3 ≤ sizeLine; decide, fun T2 nT2 => ?_⟩
        have g4 := g3.new (o := .tup [.int 3, .int 8, .int 9]) nT2
        refine ⟨T2, _, rfl, .inr (.inl (.inl upd_same)), rfl, flat_ints [3, 8, 9], _, rfl, ite2 (fun _ => ?_) (fun _ => iteF ⟨⟨none, (fun h e => nomatch e), rfl⟩, g4⟩)⟩
        refine ⟨.ref p, rfl, p, q, ns, 2, rfl, by decide, by decide, g4.dr, fun z H4 _ _ sx4 hD4 => ⟨rfl, _, rfl, ite2 (fun _ => ?_) (fun _ => ⟨⟨none, (fun h e => nomatch e), rfl⟩, g4.next sx4 hD4⟩)⟩⟩
        have g5 := g4.next sx4 hD4
        refine ⟨_, rfl, 1, lo, rfl, .ref p, rfl, _, rfl, 1, lo, rfl, 8, _, rfl, rfl, p, q, ns, _, rfl, ?_, ?_, g5.dr, fun u H5 u0 u1 sx5 hD5 => ⟨_, _, rfl, rfl, ⟨some _, (fun h e => ?_), rfl⟩, g5.next sx5 hD5⟩⟩
        · split <;> omega
        · split <;> omega
        · rw [← Option.some.inj e]
          split at u1 <;> split <;> omega
    rintro σ H3 ⟨⟨hi, hhi, rfl⟩, g3⟩
    refine ⟨fun σ H4 => (∃ (l : Addr) (xs : List Str), σ = [some (.ref p), some (.int v), some (.int lo), some (vI hi), some (.ref l), none] ∧ H4 l = some (.lst (xs.map V.str)) ∧ l ≠ p ∧ xs.length ≤ 6 ∧ ShortG xs) ∧ Go p q ns H H4, ?_, ?_⟩
    · refine ⟨.int v, rfl, by show 5 ≤ sizeLine; decide, fun T nT => ?_⟩
      have g4 := g3.new (o := .tup [.int 2, .int 3, .int 4, .int 7, .int 9]) nT
      refine ⟨T, _, rfl, .inr (.inl (.inl upd_same)), rfl, flat_ints [2, 3, 4, 7, 9], _, rfl, ite2 (fun _ => ?_) (fun _ => ?_)⟩
      · exact ⟨.ref p, rfl, p, q, ns, 4, rfl, by decide, g4.dr, fun l xs H5 h6 hs nl hl sx5 hD5 => ⟨⟨l, xs, rfl, hl, g4.dr.nn nl, h6, hs⟩, g4.next sx5 hD5⟩⟩
      · exact ⟨by show 0 ≤ sizeLine; decide, fun l nl => ⟨⟨l, [], rfl, upd_same, g4.dr.nn nl, by decide, (fun x hx => nomatch hx), List.nodup_nil, fun x hx => nomatch hx⟩, g4.new nl⟩⟩
    rintro σ H4 ⟨⟨l, xs, rfl, hl, lp, h6, hs⟩, g4⟩
    refine ⟨fun σ H5 => (∃ wd : Option Int, (∀ k, wd = some k → 1 ≤ k ∧ k ≤ 4) ∧ σ = [some (.ref p), some (.int v), some (.int lo), some (vI hi), some (.ref l), some (vI wd)]) ∧ H5 l = some (.lst (xs.map V.str)) ∧ Go p q ns H H5, ?_, ?_⟩
    · refine ⟨.int v, rfl, by show 4 ≤ sizeLine; decide, fun T nT => ?_⟩
      have g5 := g4.new (o := .tup [.int 5, .int 7, .int 8, .int 9]) nT
      have hl5 : upd H4 T (.tup [.int 5, .int 7, .int 8, .int 9]) l = some (.lst (xs.map V.str)) := same_new nT _ _ hl
      refine ⟨T, _, rfl, .inr (.inl (.inl upd_same)), rfl, flat_ints [5, 7, 8, 9], _, rfl, ite2 (fun _ => ?_) (fun _ => ?_)⟩
      · exact ⟨.ref p, rfl, p, q, ns, 4, rfl, by decide, by decide, g5.dr, fun u H6 u0 u1 sx6 hD6 => ⟨_, _, rfl, rfl, ⟨some _, (fun h e => by rw [← Option.some.inj e]; omega), rfl⟩, sx6 _ _ hl5 lp, g5.next sx6 hD6⟩⟩
      · exact ⟨⟨none, (fun h e => nomatch e), rfl⟩, hl5, g5⟩
    rintro σ H5 ⟨⟨wd, hwd, rfl⟩, hl5, g5⟩
    refine ⟨_, rfl, l, xs, rfl, SqL.of hl5, by omega, fun ys a hp hsrt na => ?_⟩
    have g6 := g5.new (o := .lst (ys.map V.str)) na
    refine ⟨a, _, rfl, .inl ⟨SqL.of upd_same, fun t nt => ?_⟩⟩
    have g7 := g6.new (o := .tup (ys.map V.str)) nt
    refine ⟨_, rfl, _, rfl, _, rfl, by show 4 ≤ sizeLine; decide, fun T nT => ?_⟩
    have e : t ≠ T := ne_of_none upd_same nT
    have hgy : Good ys := ⟨hp.nodup_iff.mpr hs.2.1, fun z hz => hs.2.2 z (hp.mem_iff.mp hz)⟩
    refine k T t ys lo hi wd _ ?_ ⟨fun z hz => hs.1 z (hp.mem_iff.mp hz), hgy⟩ hsrt (parts_ok (by rw [hp.length_eq]; exact h6) hgy lo0 lo4 hhi hwd) (g7.free nT) (g6.free nt) ⟨upd_same, ?_⟩ (g7.new nT)
    · rw [hp.length_eq]
      exact h6
    · rw [upd_ne e, upd_same]
end
end K05

set_option Elab.async false
set_option linter.all false
set_option maxRecDepth 100000
set_option maxHeartbeats 4000000
namespace K05
open PySem PySem.Spec PyProof.Rows L2 Pw TL
section
variable {P : Program} {w : World} {K : PySem.W.Frag} {mg : Str → Option Value} {base : Heap}
/-- a def as its callers have it -/
structure UseD (P : Program) (w : World) (K : PySem.W.Frag) (mg : Str → Option Value) (base : Heap) (CX : CXT) (k : Nat) (x : Str) (ps : List Str) (sp : Sp) : Prop where
  ex : ∃ (f : Addr) (fd : FuncData), FnOk P w K mg base CX k f fd ps sp ∧ mg x = some (.ref f) ∧ PySem.W.keepIn K (.ref f) = true ∧ Binds K fd ps []
/-- a method as its callers have it -/
structure UseM (P : Program) (w : World) (K : PySem.W.Frag) (mg : Str → Option Value) (base : Heap) (CX : CXT) (k : Nat) (R : Addr) (x : Str) (ps : List Str) (sp : Sp) : Prop where
  ex : ∃ (f : Addr) (fd : FuncData), FnOk P w K mg base CX k f fd ps sp ∧ Meth K R x f ∧ Binds K fd ps []
theorem lk_strs {H : Hp} {n : Nat} {r g : Addr} {l : List Str} (h1 : H r = some (.lst (l.map V.str))) (h2 : H g = some (.lst (l.map V.str))) (hl : l.length ≤ 1001) : Lk K H (n + 1) (.ref r) (.ref g) :=
  .lst (SqL.of h1) (SqL.of h2) rfl (by rw [List.length_map]; exact hl) (fun i a b ha hb => by
    rw [ha] at hb
    obtain rfl : a = b := Option.some.inj hb
    rw [List.getElem?_map] at ha
    cases e : l[i]? with
    | none =>
      rw [e] at ha
      cases ha
    | some z =>
      rw [e] at ha
      obtain rfl : V.str z = a := Option.some.inj ha
      exact .str z)
theorem lk_vI {H : Hp} {n : Nat} (o : Option Int) : Lk K H n (vI o) (vI o) := by
  cases o with
  | none => exact .non
  | some i => exact .int i
abbrev dR : List V := [.non, .int 0, .non, .non]
abbrev psR : List Str := ["self", "words", "low", "high", "span"]
/-- how a rule is made -/
structure RMk (P : Program) (w : World) (K : PySem.W.Frag) (mg : Str → Option Value) (base : Heap) (R C : Addr) : Prop where
  ex : ∃ (f : Addr) (fd : FuncData), FnOk P w K mg base (L2.CX P w) 5 f fd psR (spRI R C) ∧ Mk K R f ∧ FunD K "__init__" "Rule.__init__" (defArgs sRI) (defBody sRI) (defScope sRI) dR [] f fd
  mgR : mg "Rule" = some (.ref R)
theorem bindsAll {f : Addr} {fd : FuncData} (F : FunD K "__init__" "Rule.__init__" (defArgs sRI) (defBody sRI) (defScope sRI) dR [] f fd) : ∃ ds, Vals ([] : List V) ds ∧ Binds K fd psR ds :=
  F.binds1 5 4 (by simp) rfl (fun T kV doc pm an cdv ct us its l1 l2 => match us, its, l1, l2 with | [_, _, _, _, _], [_, _, _, _], _, _ => ⟨_, rfl, rfl⟩)
theorem made_same {H2 H' : Hp} {x dx R : Addr} (nx : H2 x = none) (nd : H2 dx = none) (fr : ∀ b o, b ≠ x → upd (upd H2 dx (.own x)) x (.ins R dx []) b = some o → H' b = some o) : Same H2 H' := fun b o e => by
  have h1 : b ≠ x := ne_of_none e nx
  have h2 : b ≠ dx := ne_of_none e nd
  refine fr b o h1 ?_
  rw [upd_ne h1, upd_ne h2]
  exact e
theorem made_free {H2 : Hp} {x dx R pw : Addr} (np : upd (upd H2 dx (.own x)) x (.ins R dx []) pw = none) : H2 pw = none := by
  by_cases h1 : pw = x
  · rw [h1, upd_same] at np
    cases np
  · rw [upd_ne h1] at np
    by_cases h2 : pw = dx
    · rw [h2, upd_same] at np
      cases np
    · rw [upd_ne h2] at np
      exact np
/-! _law_rule -/
abbrev sRL : Stmt := topS 49
theorem scRL : FnScope ["_law_r"] ["_law_r"] (defScope sRL) := ⟨rfl, rfl, rfl, by decide +kernel, rfl, by decide +kernel, by decide +kernel⟩
theorem Parts.same {H H1 : Hp} {T t : Addr} {xs : List Str} {lo : Int} {hi wd : Option Int} (h : Parts H T t xs lo hi wd) (s : Same H H1) : Parts H1 T t xs lo hi wd := ⟨s _ _ h.1, s _ _ h.2⟩
def spRL (R : Addr) : Sp := fun vs H Q _ => ∃ (T t : Addr) (xs : List Str) (lo : Int) (hi wd : Option Int), vs = [.ref T] ∧ Parts H T t xs lo hi wd ∧ xs.length ≤ 60 ∧ Short xs ∧ partBad xs lo hi wd = none ∧
  ∀ (r pw : Addr) (ys : List Str) H', Same H H' → H r = none → H pw = none → RuleAt H' R r pw ys lo hi wd → ys.Perm xs → sortedS ys = true → Q (.ref r) H'
theorem ok_rl {f R C : Addr} {fd : FuncData} (F : Fun K "_law_rule" "_law_rule" sRL f fd) (B : BN mg) (M : RMk P w K mg base R C) : FnOk P w K mg base CX0 7 f fd ["_law_r"] (spRL R) := by
  obtain ⟨fI, fdI, GI, MI, FI⟩ := M.ex
  have mR := M.mgR
  obtain ⟨dsA, vA, bA⟩ := bindsAll FI
  refine F.ok scRL (fun vs H Q E h => ?_) (fun cdv A outer s H vs Q E hr h => ?_)
  · obtain ⟨T, t, xs, lo, hi, wd, rfl, _⟩ := h
    rfl
  · obtain ⟨T, t, xs, lo, hi, wd, rfl, ⟨hT, ht⟩, h60, hs, hpb, k⟩ := h
    refine ⟨_, pss_one (ps_ret (pe_make MI GI hr rfl mR bA vA passL (pa_cons (pe_callTy call_list_of (by rfl) B.lst (by decide +kernel) (pa_cons (pe_ix ix_tup (pv 0) pe_int (fun _ _ => rfl)) pa_nil)) (pa_cons (pe_ix ix_tup (pv 0) pe_int (fun _ _ => rfl)) (pa_cons (pe_ix ix_tup (pv 0) pe_int (fun _ _ => rfl)) (pa_cons (pe_ix ix_tup (pv 0) pe_int (fun _ _ => rfl)) pa_nil)))))), ?_⟩
    have hT1 : SqT K H T [.ref t, .int lo, vI hi, vI wd] := .inl (.inl hT)
    refine ⟨.ref T, rfl, T, _, 0, .ref t, rfl, rfl, hT1, rfl, t, _, rfl, .inr (.inl (.inl ht)), fun l nl => ?_⟩
    have s1 : Same H (upd H l (.lst (xs.map V.str))) := same_new nl
    have hT2 := Same.tup s1 hT1
    refine ⟨.ref T, rfl, T, _, 1, .int lo, rfl, rfl, hT2, rfl, .ref T, rfl, T, _, 2, vI hi, rfl, rfl, hT2, rfl, .ref T, rfl, T, _, 3, vI wd, rfl, rfl, hT2, rfl, fun x dx nx nd ne => ?_⟩
    have sI : Same (upd H l (.lst (xs.map V.str))) (upd (upd (upd H l (.lst (xs.map V.str))) dx (.own x)) x (.ins R dx [])) := (same_new nd).trans (same_new (by rw [upd_ne (fun z => ne z.symm)]; exact nx))
    refine ⟨x, dx, .ref l, xs, lo, hi, wd, rfl, upd_same, .inr ⟨l, rfl, sI _ _ upd_same⟩, h60, fun z hz => (hs z hz).1, fun _ ys pw H' hpm hsr npw fr hR => ⟨rfl, ?_⟩, fun s e => ?_⟩
    · exact k x pw ys H' (s1.trans (made_same nx nd fr)) (s1.free nx) (s1.free (made_free npw)) hR hpm hsr
    · rw [hpb] at e
      cases e
end
end K05

set_option Elab.async false
set_option linter.all false
set_option maxRecDepth 100000
set_option maxHeartbeats 4000000
namespace K05
open PySem PySem.Spec PyProof.Rows L2 Pw TL
section
variable {P : Program} {w : World} {K : PySem.W.Frag} {mg : Str → Option Value} {base : Heap}
/-! _law_lawful -/
abbrev sLA : Stmt := topS 44
abbrev nLA : List Str := ["_law_r", "_law_row_here", "_law_parts_here", "_law_sums_here", "_law_word_here", "_law_part"]
theorem scLA : FnScope nLA ["_law_r", "_law_row_here"] (defScope sLA) := ⟨rfl, rfl, rfl, by decide +kernel, rfl, by decide +kernel, by decide +kernel⟩
def spLA : Sp := fun vs H Q _ => ∃ (T t : Addr) (xs : List Str) (lo : Int) (hi wd : Option Int) (x : Str), vs = [.ref T, .str x] ∧ Parts H T t xs lo hi wd ∧ (∀ y ∈ xs, tl y ≠ []) ∧ xs.length ≤ 60 ∧ Pw.Pure (tl x) ∧ (tl x).length ≤ 1000 ∧
  ∀ H', Same H H' → Q (.bl (lawB xs lo hi wd (tl x))) H'
theorem cut_in (xs : List V) : cutV xs (some 1) (some (-1)) = (xs.drop 1).dropLast := by
  unfold cutV
  have e1 : HT.sIx xs.length 0 (some 1) = min 1 xs.length := HT.sIx_nat xs.length 0 1
  have e2 : HT.sIx xs.length xs.length (some (-1)) = xs.length - 1 := by
    show (if (-1 : Int) < 0 then ((-1 : Int) + (xs.length : Int)).toNat else min (-1 : Int).toNat xs.length) = _
    rw [if_pos (by decide)]
    omega
  rw [e1, e2]
  cases xs with
  | nil => rfl
  | cons a r =>
    rw [show min 1 (a :: r).length = 1 by rw [List.length_cons]; omega, List.dropLast_eq_take]
    show List.take ((a :: r).length - 1 - 1) r = List.take (r.length - 1) r
    rw [List.length_cons]
    rfl
theorem hi_max {l : List Nat} {h m : Int} (h1 : m ∈ (runL 0 l).map fun (n : Nat) => (n : Int)) (h2 : ∀ y ∈ (runL 0 l).map (fun (n : Nat) => (n : Int)), y ≤ m) : hiB l (some h) = !decide (h < m) := by
  show (runL 0 l).all (fun n => decide ((n : Int) ≤ h)) = _
  by_cases c : h < m
  · rw [decide_eq_true c]
    refine all_false.mpr ?_
    obtain ⟨n, h3, h4⟩ := List.mem_map.mp h1
    exact ⟨n, h3, decide_eq_false (by omega)⟩
  · rw [decide_eq_false c]
    refine List.all_eq_true.mpr fun n hn => decide_eq_true ?_
    have := h2 n (List.mem_map.mpr ⟨n, hn, rfl⟩)
    omega
theorem any_low {l : List Nat} {lo : Int} : (l.all fun n => decide (lo ≤ (n : Int))) = !(l.any fun n => decide ((n : Int) < lo)) := by
  induction l with
  | nil => rfl
  | cons a r ih =>
    rw [List.all_cons, List.any_cons, ih]
    by_cases c : (a : Int) < lo
    · rw [decide_eq_true c, decide_eq_false (by omega)]
      rfl
    · rw [decide_eq_false c, decide_eq_true (by omega)]
      rfl
theorem ok_la {f fS : Addr} {fd fdS : FuncData} (F : Fun K "_law_lawful" "_law_lawful" sLA f fd) (B : BN mg) (ma : mg "any" = none) (GS : FnOk P w K mg base CX0 1 fS fdS ["_law_row_here"] spSU) (sm : mg "_law_sums" = some (.ref fS)) (sk : PySem.W.keepIn K (.ref fS) = true) (sb : Binds K fdS ["_law_row_here"] []) :
    FnOk P w K mg base CX0 2 f fd ["_law_r", "_law_row_here"] spLA := by
  refine F.ok scLA (fun vs H Q E h => ?_) (fun cdv A outer s H vs Q E hr h => ?_)
  · obtain ⟨T, t, xs, lo, hi, wd, x, rfl, _⟩ := h
    rfl
  · obtain ⟨T, t, xs, lo, hi, wd, x, rfl, hP, hx, h60, hp, hl, q⟩ := h
    refine ⟨_, pss_cons (ps_if (pt_val (pe_callB (cr_any rfl) (by rfl) ma (by decide +kernel) (pa_cons (pe_lc (own := [("_law_word_here", 4)]) (g := gName 4) (tt := tYes) rfl scLA.nd (pi_tup (pe_ix ix_tup (pv 0) pe_int (fun _ _ => rfl)))
          (blkOk_by (N := nLA) (sc := defScope sLA) (by decide +kernel)) (fun _ _ _ _ _ => pg_name (i := 4) scLA.nd rfl (Or.inl rfl)) (fun _ _ _ _ _ => pts_nil) (fun _ _ _ _ _ => pe_cmpR op_in_str (pv 4) (pv 1) (by rfl))) pa_nil))) (pss_one (ps_ret pe_bl)) pss_nil)
      (pss_cons (ps_set (i := 2) scLA.nd rfl (.inl rfl) (pe_split (pv 1) pe_str))
      (C8.pss_cut (ps_if (PW.pt (pw_and (pt_cmpR op_notN (pe_ix ix_tup (pv 0) pe_int (fun _ _ => rfl)) pe_non (nomark _)) (pw_and1 (pt_cmpR op_gt (pe_callB (cr_max rfl) (by rfl) B.max (by decide +kernel) (pa_cons (pe_lc (own := [("_law_part", 5)]) (g := gName 5) (tt := tYes) rfl scLA.nd (pi_list (pv 2))
          (blkOk_by (N := nLA) (sc := defScope sLA) (by decide +kernel)) (fun _ _ _ _ _ => pg_name (i := 5) scLA.nd rfl (Or.inl rfl)) (fun _ _ _ _ _ => pts_nil) (fun _ _ _ _ _ => pe_callB call_len_str (by rfl) B.len PySem.boot_len (pa_cons (pv 5) pa_nil))) pa_nil))
          (pe_ix ix_tup (pv 0) pe_int (fun _ _ => rfl)) (nomark _))))) (pss_one (ps_ret pe_bl)) pss_nil)
      (pss_cons (ps_if (pt_val (pe_callB (cr_any rfl) (by rfl) ma (by decide +kernel) (pa_cons (pe_lc (own := [("_law_part", 5)]) (g := gName 5) (tt := tYes) rfl scLA.nd (pi_list (pe_slice sl_list (pv 2) (po_some pe_int) (po_some (pe_un un_neg pe_int))))
          (blkOk_by (N := nLA) (sc := defScope sLA) (by decide +kernel)) (fun _ _ _ _ _ => pg_name (i := 5) scLA.nd rfl (Or.inl rfl)) (fun _ _ _ _ _ => pts_nil) (fun _ _ _ _ _ => pe_cmpR op_lt (pe_callB call_len_str (by rfl) B.len PySem.boot_len (pa_cons (pv 5) pa_nil)) (pe_ix (r := rIxT K) ix_tup (pv 0) pe_int (fun _ _ => rfl)) (nomark _))) pa_nil))) (pss_one (ps_ret pe_bl)) pss_nil)
      (pss_cons (ps_set (i := 3) scLA.nd rfl (.inl rfl) (pe_call GS hr rfl sm sk sb .nil pass0 (pa_cons (pv 1) pa_nil)))
      (pss_one (ps_ret (pe_or (pe_cmpR op_isN (pe_ix ix_tup (pv 0) pe_int (fun _ _ => rfl)) pe_non (nomark _)) (pe_one (pe_cmpR op_le (pe_op op_sub (pe_callB (cr_max rfl) (by rfl) B.max (by decide +kernel) (pa_cons (pv 3) pa_nil)) (pe_callB (cr_min rfl) (by rfl) B.min (by decide +kernel) (pa_cons (pv 3) pa_nil))) (pe_ix ix_tup (pv 0) pe_int (fun _ _ => rfl)) (nomark _)))))))))), ?_⟩
    have q' : ∀ (b : Bool) (H' : Hp), Same H H' → lawB xs lo hi wd (tl x) = b → Q (.bl b) H' := fun b H' s e => e ▸ q H' s
    clear q
    have sqT : SqT K H T [.ref t, .int lo, vI hi, vI wd] := .inl (.inl hP.1)
    have sqt : SqT K H t (xs.map V.str) := .inl (.inl hP.2)
    refine ⟨.ref T, rfl, T, _, 0, .ref t, rfl, rfl, sqT, rfl, t, rfl, ⟨_, sqt⟩, fun D nD => ?_⟩
    refine lc_tup (K := K) (a := t) (xs := xs.map V.str) (fun i H2 => Same H H2 ∧ H2 D = some (.lst (((xs.map fun y => (fEnd (tl x) (tl y)).isSome).take i).map V.bl)))
      ⟨same_new nD, upd_same⟩ (fun i H2 _ h => Same.tup h.1 sqt) (fun i v H2 hv h => ?_) (fun H2 h => ?_)
    · obtain ⟨s2, h3⟩ := h
      rw [List.getElem?_map] at hv
      cases hz : xs[i]? with
      | none =>
        rw [hz] at hv
        cases hv
      | some z =>
        rw [hz] at hv
        obtain rfl : V.str z = v := Option.some.inj hv
        have hg : (xs.map fun y => (fEnd (tl x) (tl y)).isSome)[i]? = some ((fEnd (tl x) (tl z)).isSome) := by
          rw [List.getElem?_map, hz]
          rfl
        refine ⟨rfl, _, rfl, _, rfl, z, x, rfl, rfl, _, h3, ?_, same_put s2 nD, ?_⟩
        · rw [List.length_map, List.length_take, List.length_map]
          exact Nat.lt_of_le_of_lt (Nat.min_le_right _ _) (small1000 (by omega))
        · rw [upd_same, List.take_add_one, hg, List.map_append, in_has (hx z (List.mem_of_getElem? hz))]
          rfl
    obtain ⟨s2, h3⟩ := h
    rw [List.length_map, ← List.length_map (f := fun y : Str => (fEnd (tl x) (tl y)).isSome), List.take_length] at h3
    have ea : (xs.map fun y => (fEnd (tl x) (tl y)).isSome).any id = xs.any fun y => (fEnd (tl x) (tl y)).isSome := by
      rw [List.any_map]
      rfl
    refine ⟨D, _, rfl, SqL.of h3, _, rfl, ?_⟩
    rw [ea]
    cases c1 : xs.any fun y => (fEnd (tl x) (tl y)).isSome with
    | true =>
      refine iteT (q' false H2 s2 ?_)
      unfold lawB
      rw [c1]
      rfl
    | false =>
      refine iteF ?_
      have el : ((Txt.split x "1").map (fun z => z.length)) = runL 0 (tl x) := split_len rfl
      have hzl : ∀ z ∈ Txt.split x "1", z.length ≤ sizeLine := fun z hz => by
        have : z.length ∈ runL 0 (tl x) := by
          rw [← el]
          exact List.mem_map.mpr ⟨z, hz, rfl⟩
        exact Nat.le_trans (runL_le _ _ _ this) (Nat.le_trans (by omega : 0 + (tl x).length ≤ 1000) (by decide))
      have hsl : (Txt.split x "1").length ≤ 1001 := by
        have e2 := congrArg List.length el
        rw [List.length_map] at e2
        have := runL_len (tl x) 0
        omega
      refine ⟨_, rfl, ⟨_, rfl⟩, x, _, rfl, rfl, rfl, ?_, fun p1 n1 => ?_⟩
      · rw [len_tl]
        exact Nat.le_trans (Nat.add_le_add_right hl 2) (by decide)
      have s3 := s2.trans (same_new (o := .lst ((Txt.split x "1").map V.str)) n1)
      refine ⟨fun σ H3 => σ = [some (.ref T), some (.str x), some (.ref p1), none, none, none] ∧ Same H H3 ∧ H3 p1 = some (.lst ((Txt.split x "1").map V.str)) ∧ hiB (tl x) hi = true, ?_, ?_⟩
      · have sqT3 := Same.tup s3 sqT
        cases hi with
        | none => exact ⟨.ref T, rfl, T, _, 2, .non, rfl, rfl, sqT3, rfl, rfl, _, rfl, iteF (iteF ⟨rfl, s3, upd_same, rfl⟩)⟩
        | some h =>
          refine ⟨.ref T, rfl, T, _, 2, .int h, rfl, rfl, sqT3, rfl, rfl, _, rfl, iteT ⟨_, rfl, p1, rfl, ⟨_, SqL.of upd_same⟩, fun D4 nD4 => ?_⟩⟩
          refine lc_list (K := K) (a := p1) (xs := (Txt.split x "1").map V.str) (fun i H4 => Same (upd H2 p1 (.lst ((Txt.split x "1").map V.str))) H4 ∧ H4 D4 = some (.lst ((((Txt.split x "1").map fun z : Str => (z.length : Int)).take i).map V.int)))
            ⟨same_new nD4, upd_same⟩ (fun i H4 _ h => SqL.of (h.1 _ _ upd_same)) (fun i v H4 hv h => ?_) (fun H4 h => ?_)
          · obtain ⟨s4, h4⟩ := h
            rw [List.getElem?_map] at hv
            cases hz : (Txt.split x "1")[i]? with
            | none =>
              rw [hz] at hv
              cases hv
            | some z =>
              rw [hz] at hv
              obtain rfl : V.str z = v := Option.some.inj hv
              have hg : ((Txt.split x "1").map fun z : Str => (z.length : Int))[i]? = some (z.length : Int) := by
                rw [List.getElem?_map, hz]
                rfl
              refine ⟨rfl, _, rfl, z, rfl, hzl z (List.mem_of_getElem? hz), _, h4, ?_, same_put s4 nD4, ?_⟩
              · rw [List.length_map, List.length_take, List.length_map]
                exact Nat.lt_of_le_of_lt (Nat.le_trans (Nat.min_le_right _ _) hsl) (by decide)
              · rw [upd_same, List.take_add_one, hg, List.map_append]
                rfl
          · obtain ⟨s4, h4⟩ := h
            rw [List.length_map, ← List.length_map (f := fun z : Str => (z.length : Int)), List.take_length] at h4
            have em : (Txt.split x "1").map (fun z : Str => (z.length : Int)) = (runL 0 (tl x)).map fun (n : Nat) => (n : Int) := by
              rw [← el, List.map_map]
              rfl
            rw [em] at h4
            have s5 := s3.trans s4
            refine ⟨D4, _, rfl, SqL.of h4, ?_, fun m hm hmax => ⟨.ref T, rfl, T, _, 2, .int h, rfl, rfl, Same.tup s5 sqT, rfl, _, _, rfl, rfl, _, rfl, ?_⟩⟩
            · rw [List.length_map]
              exact List.length_pos_iff.mpr (runL_ne _ _)
            have eH := hi_max (h := h) hm hmax
            by_cases c : h < m
            · rw [decide_eq_true c]
              refine iteT (q' false H4 s5 ?_)
              rw [decide_eq_true c] at eH
              unfold lawB
              rw [eH, c1]
              rfl
            · rw [decide_eq_false c]
              rw [decide_eq_false c] at eH
              exact iteF ⟨rfl, s5, s4 _ _ upd_same, eH⟩
      · rintro _ H3 ⟨rfl, s3, h3, c2⟩
        have hgl : ∀ z ∈ ((Txt.split x "1").drop 1).dropLast, z ∈ Txt.split x "1" := fun z hz => List.mem_of_mem_drop ((List.dropLast_sublist _).subset hz)
        have ec : cutV ((Txt.split x "1").map V.str) (some 1) (some (-1)) = (((Txt.split x "1").drop 1).dropLast).map V.str := by rw [cut_in, ← List.map_drop, ← List.map_dropLast]
        refine ⟨_, rfl, 1, rfl, 1, rfl, -1, rfl, p1, _, rfl, SqL.of h3, fun p2 n2 => ?_⟩
        rw [ec]
        have s4 := s3.trans (same_new (o := .lst ((((Txt.split x "1").drop 1).dropLast).map V.str)) n2)
        refine ⟨p2, rfl, ⟨_, SqL.of upd_same⟩, fun D5 nD5 => ?_⟩
        refine lc_list (K := K) (a := p2) (xs := (((Txt.split x "1").drop 1).dropLast).map V.str) (fun i H4 => Same (upd H3 p2 (.lst ((((Txt.split x "1").drop 1).dropLast).map V.str))) H4 ∧ H4 D5 = some (.lst ((((((Txt.split x "1").drop 1).dropLast).map fun z : Str => decide ((z.length : Int) < lo)).take i).map V.bl)))
          ⟨same_new nD5, upd_same⟩ (fun i H4 _ h => SqL.of (h.1 _ _ upd_same)) (fun i v H4 hv h => ?_) (fun H4 h => ?_)
        · obtain ⟨s5, h5⟩ := h
          rw [List.getElem?_map] at hv
          cases hz : (((Txt.split x "1").drop 1).dropLast)[i]? with
          | none =>
            rw [hz] at hv
            cases hv
          | some z =>
            rw [hz] at hv
            obtain rfl : V.str z = v := Option.some.inj hv
            have hg : ((((Txt.split x "1").drop 1).dropLast).map fun z : Str => decide ((z.length : Int) < lo))[i]? = some (decide ((z.length : Int) < lo)) := by
              rw [List.getElem?_map, hz]
              rfl
            have hlen : (((Txt.split x "1").drop 1).dropLast).length ≤ 1001 := by
              rw [List.length_dropLast, List.length_drop]
              omega
            refine ⟨rfl, _, rfl, z, rfl, hzl z (hgl z (List.mem_of_getElem? hz)), .ref T, rfl, T, _, 1, .int lo, rfl, rfl, Same.tup (s4.trans s5) sqT, rfl, _, _, rfl, rfl, _, h5, ?_, same_put s5 nD5, ?_⟩
            · rw [List.length_map, List.length_take, List.length_map]
              exact Nat.lt_of_le_of_lt (Nat.le_trans (Nat.min_le_right _ _) hlen) (by decide)
            · rw [upd_same, List.take_add_one, hg, List.map_append]
              rfl
        · obtain ⟨s5, h5⟩ := h
          rw [List.length_map, ← List.length_map (f := fun z : Str => decide ((z.length : Int) < lo)), List.take_length] at h5
          have eb : ((((Txt.split x "1").drop 1).dropLast).map fun z : Str => decide ((z.length : Int) < lo)).any id = ((runL 0 (tl x)).drop 1).dropLast.any fun n => decide ((n : Int) < lo) := by
            rw [← el, ← List.map_drop, ← List.map_dropLast, List.any_map, List.any_map]
            rfl
          have s6 := s4.trans s5
          refine ⟨D5, _, rfl, SqL.of h5, _, rfl, ?_⟩
          rw [eb]
          have e3 := any_low (l := ((runL 0 (tl x)).drop 1).dropLast) (lo := lo)
          cases c3 : ((runL 0 (tl x)).drop 1).dropLast.any fun n => decide ((n : Int) < lo) with
          | true =>
            refine iteT (q' false H4 s6 ?_)
            rw [c3] at e3
            unfold lawB
            rw [c1, c2, e3]
            rfl
          | false =>
            rw [c3] at e3
            refine iteF ⟨_, rfl, x, rfl, hl, hp, fun H5 pS s7 npS hS => ?_⟩
            have s8 := s6.trans s7
            have sq8 := Same.tup s8 sqT
            have eq4 : lawB xs lo hi wd (tl x) = wdB (tl x) wd := by
              unfold lawB
              rw [c1, c2, e3]
              rfl
            have hpos : 0 < (sums (tl x)).length := by
              rw [sums_len]
              omega
            cases wd with
            | none => exact ⟨.ref T, rfl, T, _, 3, .non, rfl, rfl, sq8, rfl, rfl, _, rfl, iteT (q' true H5 s8 eq4)⟩
            | some k =>
              refine ⟨.ref T, rfl, T, _, 3, .int k, rfl, rfl, sq8, rfl, rfl, _, rfl, iteF ⟨_, rfl, pS, _, rfl, SqL.of hS, hpos, fun m hm hmax => ⟨_, rfl, pS, _, rfl, SqL.of hS, hpos, fun m2 hm2 hmin => ?_⟩⟩⟩
              obtain ⟨a1, b1, b2⟩ := hiS_top (tl x)
              have e1 : m = (hiS (tl x)).2.1 := IsMax.eq ⟨hm, hmax⟩ a1
              have e2 : m2 = (hiS (tl x)).2.2 := Int.le_antisymm (hmin _ b1) (b2 _ hm2)
              refine ⟨_, _, rfl, rfl, .ref T, rfl, T, _, 3, .int k, rfl, rfl, sq8, rfl, _, _, rfl, rfl, q' _ H5 s8 ?_⟩
              rw [eq4, e1, e2]
              rfl
end
end K05

set_option Elab.async false
set_option linter.all false
set_option maxRecDepth 100000
set_option maxHeartbeats 4000000
namespace K05
open PySem PySem.Spec PyProof.Rows L2 Pw TL
section
variable {P : Program} {w : World} {K : PySem.W.Frag} {mg : Str → Option Value} {base : Heap}
/-! narrower -/
abbrev sNA : Stmt := topS 32
theorem scNA : FnScope ["one", "other"] ["one", "other"] (defScope sNA) := ⟨rfl, rfl, rfl, by decide +kernel, rfl, by decide +kernel, by decide +kernel⟩
def nar : Option Int → Option Int → Option Int
  | none, b => b
  | some a, none => some a
  | some a, some b => some (min a b)
def spNA : Sp := fun vs H Q _ => ∃ a b : Option Int, vs = [vI a, vI b] ∧ Q (vI (nar a b)) H
theorem min_if (a b : Int) : (if b < a then b else a) = min a b := by
  by_cases h : b < a
  · rw [if_pos h]
    omega
  · rw [if_neg h]
    omega
theorem ok_na {f : Addr} {fd : FuncData} {k : Nat} (F : Fun K "narrower" "narrower" sNA f fd) (mm : mg "min" = none) : FnOk P w K mg base CX0 (k + 1) f fd ["one", "other"] spNA := by
  refine F.ok scNA (fun vs H Q E h => ?_) (fun cdv A outer s H vs Q E hr h => ?_)
  · obtain ⟨a, b, rfl, _⟩ := h
    rfl
  · obtain ⟨a, b, rfl, q⟩ := h
    refine ⟨_, pss_cons (ps_if (PW.pt (pw_or (pt_cmpR op_isN (pv 0) pe_non (nomark _)) (pw_or1 (pt_cmpR op_isN (pv 1) pe_non (nomark _))))) (pss_one (ps_ret (pe_ifExp (pt_cmpR op_isN (pv 0) pe_non (nomark _)) (pv 1) (pv 0)))) pss_nil)
      (pss_one (ps_ret (pe_callB (call_min2 rfl) (by rfl) mm (by decide +kernel) (pa_cons (pv 0) (pa_cons (pv 1) pa_nil))))), ?_⟩
    cases a with
    | none => exact ⟨_, rfl, rfl, _, rfl, iteT (iteT ⟨_, rfl, rfl, _, rfl, iteT ⟨_, rfl, q⟩⟩)⟩
    | some i =>
      cases b with
      | none => exact ⟨_, rfl, rfl, _, rfl, iteF ⟨_, rfl, rfl, _, rfl, iteT ⟨_, rfl, rfl, _, rfl, iteF ⟨_, rfl, q⟩⟩⟩⟩
      | some j =>
        refine ⟨_, rfl, rfl, _, rfl, iteF ⟨_, rfl, rfl, _, rfl, iteF ⟨_, rfl, _, rfl, i, j, rfl, ?_⟩⟩⟩
        rw [min_if]
        exact q
/-- a rule is made of these parts, or refused -/
def mkd (R C : Addr) (xs : List Str) (lo : Int) (hi sp : Option Int) (H : Hp) (Q : VK) (E : XK) : Prop :=
  (partBad xs lo hi sp = none → ∀ (r pw : Addr) (zs : List Str) H', Same H H' → H r = none → H pw = none → RuleAt H' R r pw zs lo hi sp → zs.Perm xs → sortedS zs = true → Q (.ref r) H') ∧ partOut C (partBad xs lo hi sp) H E
theorem mk_read {R C l : Addr} {H H1 : Hp} {Q : VK} {E : XK} {xs : List Str} {lo : Int} {hi sp : Option Int} (s1 : Same H H1) (hl : H1 l = some (.lst (xs.map V.str))) (h60 : xs.length ≤ 60) (hx : ∀ x ∈ xs, (tl x).length ≤ 1000) (k : mkd R C xs lo hi sp H Q E) :
    ∀ x dx, H1 x = none → H1 dx = none → dx ≠ x → spRI R C [.ref x, .ref l, .int lo, vI hi, vI sp] (upd (upd H1 dx (.own x)) x (.ins R dx [])) (fun v H2 => v = .non ∧ Q (.ref x) H2) E := fun x dx nx nd ne => by
  have sI : Same H1 (upd (upd H1 dx (.own x)) x (.ins R dx [])) := (same_new nd).trans (same_new (by rw [upd_ne (fun z => ne z.symm)]; exact nx))
  refine ⟨x, dx, .ref l, xs, lo, hi, sp, rfl, upd_same, .inr ⟨l, rfl, sI _ _ hl⟩, h60, hx, fun e zs pw H' hpm hsr npw fr hR => ⟨rfl, ?_⟩, fun s e d H' sm nd' hd' => k.2 s e d H' ((s1.trans sI).trans sm) ((s1.trans sI).free nd') hd'⟩
  exact k.1 e x pw zs H' (s1.trans (made_same nx nd fr)) (s1.free nx) (s1.free (made_free npw)) hR hpm hsr
def Fit (ys : List Str) : Prop := ys.length ≤ 20 ∧ ∀ y ∈ ys, (tl y).length ≤ 1000
/-! barring -/
abbrev sMB : Stmt := inClass (topS 35) 8
theorem scMB : FnScope ["self", "word"] ["self", "word"] (defScope sMB) := ⟨rfl, rfl, rfl, by decide +kernel, rfl, by decide +kernel, by decide +kernel⟩
def spMB (R C : Addr) : Sp := fun vs H Q E => ∃ (r p : Addr) (ys : List Str) (lo : Int) (hi sp : Option Int) (x : Str), vs = [.ref r, .str x] ∧ RuleAt H R r p ys lo hi sp ∧ Fit ys ∧ (tl x).length ≤ 1000 ∧ mkd R C (ys ++ [x]) lo hi sp H Q E
theorem ok_mb {f R C : Addr} {fd : FuncData} (F : Fun K "barring" "Rule.barring" sMB f fd) (T : RuleC K R) (M : RMk P w K mg base R C) : FnOk P w K mg base (L2.CX P w) 7 f fd ["self", "word"] (spMB R C) := by
  obtain ⟨fI, fdI, GI, MI, FI⟩ := M.ex
  have mR := M.mgR
  obtain ⟨dsA, vA, bA⟩ := bindsAll FI
  refine F.okX scMB (fun vs H Q E h => ?_) (fun cdv A outer s H vs Q E hr h => ?_)
  · obtain ⟨r, p, ys, lo, hi, sp, x, rfl, _⟩ := h
    rfl
  · obtain ⟨r, p, ys, lo, hi, sp, x, rfl, ⟨dx, h1, h2⟩, hf, hx, k⟩ := h
    refine ⟨_, pss_one (ps_ret (pe_make (E := E) MI GI hr rfl mR bA vA (passes_call (takes_of rfl rfl rfl rfl) (fun _ _ _ _ z => z)) (pa_cons (pe_op op_cat (pe_fld (pv 0) rfl) (pe_lst (pa_cons (pv 1) pa_nil))) (pa_cons (pe_fld (pv 0) rfl) (pa_cons (pe_fld (pv 0) rfl) (pa_cons (pe_fld (pv 0) rfl) pa_nil)))))), ?_⟩
    refine ⟨_, rfl, r, R, dx, _, .ref p, rfl, h1, T.c, T.n1, rfl, _, rfl, by show 1 ≤ sizeLine; decide, fun b nb => ?_⟩
    have s1 : Same H (upd H b (.lst [.str x])) := same_new nb
    have hf1 := hf.1
    refine ⟨p, b, _, _, rfl, rfl, s1 _ _ h2, upd_same, ?_, fun l nl => ?_⟩
    · rw [List.length_map]
      exact Nat.le_of_lt (small1000 (by show ys.length + 1 ≤ 1000; omega))
    have s2 := s1.trans (same_new (o := .lst (ys.map V.str ++ [V.str x])) nl)
    have g1 := s2 _ _ h1
    refine ⟨_, rfl, r, R, dx, _, .int lo, rfl, g1, T.c, T.n2, rfl, _, rfl, r, R, dx, _, vI hi, rfl, g1, T.c, T.n3, rfl, _, rfl, r, R, dx, _, vI sp, rfl, g1, T.c, T.n4, rfl, ?_⟩
    refine mk_read s2 (by rw [upd_same, List.map_append]; rfl) ?_ (fun y hy => ?_) k
    · rw [List.length_append]
      show ys.length + 1 ≤ 60
      omega
    · rcases List.mem_append.mp hy with z | z
      · exact hf.2 y z
      · rw [List.mem_singleton.mp z]
        exact hx
/-! bounded -/
abbrev sBD : Stmt := inClass (topS 35) 10
theorem scBD : FnScope ["self", "low", "high", "span"] ["self", "low", "high", "span"] (defScope sBD) := ⟨rfl, rfl, rfl, by decide +kernel, rfl, by decide +kernel, by decide +kernel⟩
def spBD (R C : Addr) : Sp := fun vs H Q E => ∃ (r p : Addr) (ys : List Str) (lo : Int) (hi sp : Option Int) (lo2 : Int) (hi2 sp2 : Option Int), vs = [.ref r, .int lo2, vI hi2, vI sp2] ∧ RuleAt H R r p ys lo hi sp ∧ Fit ys ∧ mkd R C ys lo2 hi2 sp2 H Q E
theorem ok_bd {f R C : Addr} {fd : FuncData} (F : Fun K "bounded" "Rule.bounded" sBD f fd) (T : RuleC K R) (M : RMk P w K mg base R C) : FnOk P w K mg base (L2.CX P w) 7 f fd ["self", "low", "high", "span"] (spBD R C) := by
  obtain ⟨fI, fdI, GI, MI, FI⟩ := M.ex
  have mR := M.mgR
  obtain ⟨dsA, vA, bA⟩ := bindsAll FI
  refine F.okX scBD (fun vs H Q E h => ?_) (fun cdv A outer s H vs Q E hr h => ?_)
  · obtain ⟨r, p, ys, lo, hi, sp, lo2, hi2, sp2, rfl, _⟩ := h
    rfl
  · obtain ⟨r, p, ys, lo, hi, sp, lo2, hi2, sp2, rfl, ⟨dx, h1, h2⟩, hf, k⟩ := h
    have hf1 := hf.1
    refine ⟨_, pss_one (ps_ret (pe_make (E := E) MI GI hr rfl mR bA vA (passes_call (takes_of rfl rfl rfl rfl) (fun _ _ _ _ z => z)) (pa_cons (pe_fld (pv 0) rfl) (pa_cons (pv 1) (pa_cons (pv 2) (pa_cons (pv 3) pa_nil)))))), ?_⟩
    exact ⟨_, rfl, r, R, dx, _, .ref p, rfl, h1, T.c, T.n1, rfl, _, rfl, _, rfl, _, rfl, mk_read (Same.refl H) h2 (by omega) hf.2 k⟩
/-! freeing -/
abbrev sFR : Stmt := inClass (topS 35) 9
theorem scFR : FnScope ["self", "word", "words", "kept"] ["self", "word"] (defScope sFR) := ⟨rfl, rfl, rfl, by decide +kernel, rfl, by decide +kernel, by decide +kernel⟩
def spFR (R C : Addr) : Sp := fun vs H Q E => ∃ (r p : Addr) (ys : List Str) (lo : Int) (hi sp : Option Int) (x : Str), vs = [.ref r, .str x] ∧ RuleAt H R r p ys lo hi sp ∧ Fit ys ∧ 
  (x ∈ ys → mkd R C (ys.filter fun y => !decide (y = x)) lo hi sp H Q E) ∧ (x ∉ ys → partOut C (some (Str.ofString "words")) H E)
theorem fit_filter {ys : List Str} (h : Fit ys) (f : Str → Bool) : Fit (ys.filter f) := ⟨Nat.le_trans (List.length_filter_le _ _) h.1, fun y hy => h.2 y (List.mem_filter.mp hy).1⟩
theorem take_filter {ys : List Str} {f : Str → Bool} {i : Nat} {z : Str} (h : ys[i]? = some z) : (ys.take (i + 1)).filter f = (ys.take i).filter f ++ (if f z = true then [z] else []) := by
  rw [List.take_add_one, h, List.filter_append]
  congr 1
  show List.filter f [z] = _
  cases e : f z <;> simp [e]
theorem ok_fr {f R C : Addr} {fd : FuncData} (F : Fun K "freeing" "Rule.freeing" sFR f fd) (T : RuleC K R) (M : RMk P w K mg base R C) (TE : ErrOk P w K mg base "BadRule" "part" C okStr) : FnOk P w K mg base (L2.CX P w) 7 f fd ["self", "word"] (spFR R C) := by
  obtain ⟨fI, fdI, GI, MI, FI⟩ := M.ex
  have mR := M.mgR
  obtain ⟨dsA, vA, bA⟩ := bindsAll FI
  refine F.okX scFR (fun vs H Q E h => ?_) (fun cdv A outer s H vs Q E hr h => ?_)
  · obtain ⟨r, p, ys, lo, hi, sp, x, rfl, _⟩ := h
    rfl
  · obtain ⟨r, p, ys, lo, hi, sp, x, rfl, ⟨dx, h1, h2⟩, hf, k, ko⟩ := h
    refine ⟨_, pss_cons (ps_if (pt_cmpR op_notIn_seq (pv 1) (pe_fld (pv 0) rfl) (by rfl)) (pss_one (ps_raise rfl (takes_of rfl rfl rfl rfl) (pmk_err TE (hr.mono (by decide)) rfl pe_str))) pss_nil)
      (pss_cons (ps_setLc (i := 2) (own := [("kept", 3)]) (g := gName 3) rfl scFR.nd rfl rfl (sw_true rfl rfl rfl (by decide +kernel)) (pi_list (pe_fld (pv 0) rfl))
        (blkOk_by (N := ["self", "word", "words", "kept"]) (sc := defScope sFR) (by decide +kernel)) (fun _ _ _ _ _ => pg_name (i := 3) scFR.nd rfl (Or.inl rfl)) (fun _ _ _ _ _ => pts_one (pt_cmpR op_ne (pv 3) (pv 1) (nomark _))) (fun _ _ _ _ _ => pv 3))
      (pss_one (ps_ret (pe_make (E := E) MI GI hr rfl mR bA vA (passes_call (takes_of rfl rfl rfl rfl) (fun _ _ _ _ z => z)) (pa_cons (pv 2) (pa_cons (pe_fld (pv 0) rfl) (pa_cons (pe_fld (pv 0) rfl) (pa_cons (pe_fld (pv 0) rfl) pa_nil)))))))), ?_⟩
    refine ⟨_, rfl, _, rfl, r, R, dx, _, .ref p, rfl, h1, T.c, T.n1, rfl, p, _, rfl, .inl (SqL.of h2), rfl, flat_strs ys, _, rfl, ?_⟩
    by_cases hin : x ∈ ys
    · have hb : (if true then !inV (.str x) (ys.map V.str) else inV (.str x) (ys.map V.str)) = false := by
        rw [if_pos rfl, (inV_str x ys).mpr hin]
        rfl
      rw [hb]
      refine iteF ⟨_, rfl, r, R, dx, _, .ref p, rfl, h1, T.c, T.n1, rfl, p, rfl, ⟨_, SqL.of h2⟩, fun D nD => ?_⟩
      refine lc_list (K := K) (a := p) (xs := ys.map V.str) (fun i H3 => Same H H3 ∧ H3 D = some (.lst (((ys.take i).filter fun y => !decide (y = x)).map V.str)))
        ⟨same_new nD, upd_same⟩ (fun i H3 _ h => SqL.of (h.1 _ _ h2)) (fun i v H3 hv h => ?_) (fun H3 h => ?_)
      · obtain ⟨s3, h3⟩ := h
        rw [List.getElem?_map] at hv
        cases hz : ys[i]? with
        | none =>
          rw [hz] at hv
          cases hv
        | some z =>
          rw [hz] at hv
          obtain rfl : V.str z = v := Option.some.inj hv
          have hi := (List.getElem?_eq_some_iff.mp hz).1
          have hlt : ((ys.take i).filter fun y => !decide (y = x)).length ≤ 20 := Nat.le_trans (List.length_filter_le _ _) (by rw [List.length_take]; have := hf.1; omega)
          refine ⟨rfl, _, rfl, _, rfl, rfl, _, rfl, ?_⟩
          have ed : decide (V.str z = V.str x) = decide (z = x) := by
            by_cases e : z = x
            · rw [e, decide_eq_true rfl, decide_eq_true rfl]
            · rw [decide_eq_false e, decide_eq_false (fun y => e (V.str.inj y))]
          rw [ed]
          by_cases e : z = x
          · rw [decide_eq_true e]
            refine iteF ⟨s3, ?_⟩
            rw [take_filter hz, if_neg (by rw [decide_eq_true e]; decide), List.append_nil]
            exact h3
          · rw [decide_eq_false e]
            refine iteT ⟨_, rfl, _, h3, ?_, same_put s3 nD, ?_⟩
            · rw [List.length_map]
              exact small1000 (by omega)
            · rw [upd_same, take_filter hz, if_pos (by rw [decide_eq_false e]; rfl), List.map_append]
              rfl
      · obtain ⟨s3, h3⟩ := h
        rw [List.length_map, List.take_length] at h3
        have g1 := s3 _ _ h1
        have ff := fit_filter hf fun y => !decide (y = x)
        have ff1 := ff.1
        exact ⟨.ref D, rfl, _, rfl, r, R, dx, _, .int lo, rfl, g1, T.c, T.n2, rfl, _, rfl, r, R, dx, _, vI hi, rfl, g1, T.c, T.n3, rfl, _, rfl, r, R, dx, _, vI sp, rfl, g1, T.c, T.n4, rfl, mk_read s3 h3 (by omega) ff.2 (k hin)⟩
    · have hb : (if true then !inV (.str x) (ys.map V.str) else inV (.str x) (ys.map V.str)) = true := by
        rw [if_pos rfl]
        cases e : inV (.str x) (ys.map V.str) with
        | false => rfl
        | true => exact absurd ((inV_str x ys).mp e) hin
      rw [hb]
      exact iteT (err_read ⟨_, rfl, by decide⟩ fun d H2 s2 nd e2 => ko hin _ rfl d H2 s2 nd e2)
end
end K05

set_option Elab.async false
set_option linter.all false
set_option maxRecDepth 100000
set_option maxHeartbeats 4000000
namespace K05
open PySem PySem.Spec PyProof.Rows L2 Pw TL
section
variable {P : Program} {w : World} {K : PySem.W.Frag} {mg : Str → Option Value} {base : Heap}
/-! joined -/
abbrev sJO : Stmt := inClass (topS 35) 11
abbrev nJO : List Str := ["self", "other", "words", "low", "high", "word"]
theorem scJO : FnScope nJO ["self", "other"] (defScope sJO) := ⟨rfl, rfl, rfl, by decide +kernel, rfl, by decide +kernel, by decide +kernel⟩
/-- the words of both -/
def both (ys zs : List Str) : List Str := ys ++ zs.filter fun z => !decide (z ∈ ys)
def spJO (R C : Addr) : Sp := fun vs H Q E => ∃ (r p : Addr) (ys : List Str) (lo : Int) (hi sp : Option Int) (r2 p2 : Addr) (zs : List Str) (lo2 : Int) (hi2 sp2 : Option Int), vs = [.ref r, .ref r2] ∧ RuleAt H R r p ys lo hi sp ∧ RuleAt H R r2 p2 zs lo2 hi2 sp2 ∧ Fit ys ∧ Fit zs ∧
  mkd R C (both ys zs) (max lo lo2) (nar hi hi2) (nar sp sp2) H Q E
theorem ok_jo {f R C fN fW fL fH fS : Addr} {fd fdN fdW fdL fdH fdS : FuncData} (F : Fun K "joined" "Rule.joined" sJO f fd) (T : RuleC K R) (M : RMk P w K mg base R C) (mm : mg "max" = none)
    (GN : FnOk P w K mg base CX0 1 fN fdN ["one", "other"] spNA) (nm : mg "narrower" = some (.ref fN)) (nk : PySem.W.keepIn K (.ref fN) = true) (nb : Binds K fdN ["one", "other"] [])
    (GW : FnOk P w K mg base CX0 1 fW fdW ["self"] (spMW R)) (wm : Meth K R "words" fW) (wb : Binds K fdW ["self"] [])
    (GL : FnOk P w K mg base CX0 1 fL fdL ["self"] (spMO R fun lo _ _ => .int lo)) (lm : Meth K R "low" fL) (lb : Binds K fdL ["self"] [])
    (GH : FnOk P w K mg base CX0 1 fH fdH ["self"] (spMO R fun _ hi _ => vI hi)) (hm : Meth K R "high" fH) (hb : Binds K fdH ["self"] [])
    (GS : FnOk P w K mg base CX0 1 fS fdS ["self"] (spMO R fun _ _ sp => vI sp)) (sm : Meth K R "span" fS) (sb : Binds K fdS ["self"] []) :
    FnOk P w K mg base (L2.CX P w) 7 f fd ["self", "other"] (spJO R C) := by
  obtain ⟨fI, fdI, GI, MI, FI⟩ := M.ex
  have mR := M.mgR
  obtain ⟨dsA, vA, bA⟩ := bindsAll FI
  refine F.okX scJO (fun vs H Q E h => ?_) (fun cdv A outer s H vs Q E hr h => ?_)
  · obtain ⟨r, p, ys, lo, hi, sp, r2, p2, zs, lo2, hi2, sp2, rfl, _⟩ := h
    rfl
  · obtain ⟨r, p, ys, lo, hi, sp, r2, p2, zs, lo2, hi2, sp2, rfl, hR, hR2, hf, hf2, k⟩ := h
    have r1 : Room 1 _ := hr.mono (by decide)
    refine ⟨_, pss_cons (ps_set (i := 2) scJO.nd rfl (.inl rfl) (pe_op op_cat (pe_fld (pv 0) rfl) (pe_lc (own := [("word", 5)]) (g := gName 5) rfl scJO.nd (pi_list (pe_meth0 (pv 1) T.c wm GW r1 wb .nil pass0))
        (blkOk_by (N := nJO) (sc := defScope sJO) (by decide +kernel)) (fun _ _ _ _ _ => pg_name (i := 5) scJO.nd rfl (Or.inl rfl)) (fun _ _ _ _ _ => pts_one (pt_cmpR (r := rIn K true) (tb := tFld K (tVar 0) "barred") op_notIn_seq (pv 5) (pe_fld (pv 0) rfl) (by rfl))) (fun _ _ _ _ _ => pv 5))))
      (pss_cons (ps_set (i := 3) scJO.nd rfl (.inl rfl) (pe_callB (call_max2 rfl) (by rfl) mm (by decide +kernel) (pa_cons (pe_fld (pv 0) rfl) (pa_cons (pe_meth0 (pv 1) T.c lm GL r1 lb .nil pass0) pa_nil))))
      (pss_cons (ps_set (i := 4) scJO.nd rfl (.inl rfl) (pe_call GN r1 rfl nm nk nb .nil pass0 (pa_cons (pe_fld (pv 0) rfl) (pa_cons (pe_meth0 (pv 1) T.c hm GH r1 hb .nil pass0) pa_nil))))
      (pss_one (ps_ret (pe_make (E := E) MI GI hr rfl mR bA vA (passes_call (takes_of rfl rfl rfl rfl) (fun _ _ _ _ z => z)) (pa_cons (pv 2) (pa_cons (pv 3) (pa_cons (pv 4) (pa_cons (pe_call GN r1 rfl nm nk nb .nil pass0 (pa_cons (pe_fld (pv 0) rfl) (pa_cons (pe_meth0 (pv 1) T.c sm GS r1 sb .nil pass0) pa_nil))) pa_nil))))))))), ?_⟩
    obtain ⟨dx, h1, h2⟩ := id hR
    obtain ⟨dx2, g1, g2⟩ := id hR2
    refine ⟨_, rfl, r, R, dx, _, .ref p, rfl, h1, T.c, T.n1, rfl, .ref r2, rfl, r2, dx2, _, rfl, g1, rfl, r2, p2, zs, lo2, hi2, sp2, rfl, hR2, fun l nl => ⟨l, rfl, ⟨_, SqL.of upd_same⟩, fun D nD => ?_⟩⟩
    have s1 : Same H (upd H l (.lst (zs.map V.str))) := same_new nl
    refine lc_list (K := K) (a := l) (xs := zs.map V.str) (fun i H3 => Same (upd H l (.lst (zs.map V.str))) H3 ∧ H3 D = some (.lst (((zs.take i).filter fun z => !decide (z ∈ ys)).map V.str)))
      ⟨same_new nD, upd_same⟩ (fun i H3 _ h => SqL.of (h.1 _ _ upd_same)) (fun i v H3 hv h => ?_) (fun H3 h => ?_)
    · obtain ⟨s3, h3⟩ := h
      rw [List.getElem?_map] at hv
      cases hz : zs[i]? with
      | none =>
        rw [hz] at hv
        cases hv
      | some z =>
        rw [hz] at hv
        obtain rfl : V.str z = v := Option.some.inj hv
        have hlt : ((zs.take i).filter fun z => !decide (z ∈ ys)).length ≤ 20 := Nat.le_trans (List.length_filter_le _ _) (by rw [List.length_take]; have := hf2.1; omega)
        have s13 := s1.trans s3
        refine ⟨rfl, _, rfl, _, rfl, r, R, dx, _, .ref p, rfl, s13 _ _ h1, T.c, T.n1, rfl, p, _, rfl, .inl (SqL.of (s13 _ _ h2)), rfl, flat_strs ys, _, rfl, ?_⟩
        by_cases e : z ∈ ys
        · rw [if_pos rfl, (inV_str z ys).mpr e]
          refine iteF ⟨s3, ?_⟩
          rw [take_filter hz, if_neg (by rw [decide_eq_true e]; decide), List.append_nil]
          exact h3
        · have hb : inV (.str z) (ys.map V.str) = false := by
            cases e2 : inV (.str z) (ys.map V.str) with
            | false => rfl
            | true => exact absurd ((inV_str z ys).mp e2) e
          rw [if_pos rfl, hb]
          refine iteT ⟨_, rfl, _, h3, ?_, same_put s3 nD, ?_⟩
          · rw [List.length_map]
            exact small1000 (by omega)
          · rw [upd_same, take_filter hz, if_pos (by rw [decide_eq_false e]; rfl), List.map_append]
            rfl
    · obtain ⟨s3, h3⟩ := h
      rw [List.length_map, List.take_length] at h3
      have s13 := s1.trans s3
      have ff := fit_filter hf2 fun z => !decide (z ∈ ys)
      have ff1 := ff.1
      have hf1 := hf.1
      refine ⟨p, D, _, _, rfl, rfl, s13 _ _ h2, h3, ?_, fun B nB => ?_⟩
      · rw [List.length_map, List.length_map]
        exact Nat.le_of_lt (small1000 (by omega))
      have s4 := s13.trans (same_new (o := .lst (ys.map V.str ++ (zs.filter fun z => !decide (z ∈ ys)).map V.str)) nB)
      have hRa := hR2.same s4
      have a1 := s4 _ _ h1
      have b1 := s4 _ _ g1
      refine ⟨_, rfl, r, R, dx, _, .int lo, rfl, a1, T.c, T.n2, rfl, .ref r2, rfl, r2, dx2, _, rfl, b1, rfl, r2, p2, zs, lo2, hi2, sp2, rfl, hRa, lo, lo2, rfl, ?_⟩
      rw [max_if]
      refine ⟨_, rfl, r, R, dx, _, vI hi, rfl, a1, T.c, T.n3, rfl, .ref r2, rfl, r2, dx2, _, rfl, b1, rfl, r2, p2, zs, lo2, hi2, sp2, rfl, hRa, hi, hi2, rfl, ?_⟩
      refine ⟨_, rfl, _, rfl, _, rfl, _, rfl, r, R, dx, _, vI sp, rfl, a1, T.c, T.n4, rfl, .ref r2, rfl, r2, dx2, _, rfl, b1, rfl, r2, p2, zs, lo2, hi2, sp2, rfl, hRa, sp, sp2, rfl, ?_⟩
      refine mk_read s4 (by rw [upd_same]; unfold both; rw [List.map_append]) ?_ (fun y hy => ?_) k
      · unfold both
        rw [List.length_append]
        omega
      · rcases List.mem_append.mp hy with z | z
        · exact hf.2 y z
        · exact ff.2 y z
end
end K05

set_option Elab.async false
set_option linter.all false
set_option maxRecDepth 100000
set_option maxHeartbeats 4000000
namespace K05
open PySem PySem.Spec PyProof.Rows L2 Pw TL
section
variable {P : Program} {w : World} {K : PySem.W.Frag} {mg : Str → Option Value} {base : Heap}
/-! _law_rule_word -/
abbrev sRU : Stmt := topS 54
theorem scRU : FnScope ["_law_r", "_law_bars", "_law_least", "_law_upper", "_law_wide", "_law_good", "_law_plain_here", "_law_word_here"] ["_law_r"] (defScope sRU) := ⟨rfl, rfl, rfl, by decide +kernel, rfl, by decide +kernel, by decide +kernel⟩
/-- the word of a rule's parts -/
def ruleWord (xs : List Str) (lo : Int) (hi wd : Option Int) : Str := match partBad xs lo hi wd with
  | none => Str.ofString ""
  | some s => Str.ofString "badrule " ++ s
/-- texts of moderate size -/
def Fine (xs : List Str) : Prop := ∀ x ∈ xs, (tl x).length ≤ 1000
def spRU : Sp := fun vs H Q _ => ∃ (T t : Addr) (xs : List Str) (lo : Int) (hi wd : Option Int), vs = [.ref T] ∧ Parts H T t xs lo hi wd ∧ xs.length ≤ 60 ∧ Fine xs ∧ ∀ H', Same H H' → Q (.str (ruleWord xs lo hi wd)) H'
theorem word6 (x : Str) : (decide (0 < (x.length : Int)) && decide ((x.length : Int) < 6) && (strange (tl x)).isNone) = wordB x := by
  unfold wordB
  rw [len_tl]
  congr 1
  by_cases h : 1 ≤ (tl x).length ∧ (tl x).length ≤ 5
  · rw [decide_eq_true h, decide_eq_true (by omega), decide_eq_true (by omega)]
    rfl
  · rw [decide_eq_false h]
    by_cases h2 : 0 < ((tl x).length : Int)
    · rw [decide_eq_false (p := ((tl x).length : Int) < 6) (by omega), Bool.and_false]
    · rw [decide_eq_false h2, Bool.false_and]
theorem ok_ru {f fB : Addr} {fd fdB : FuncData} (F : Fun K "_law_rule_word" "_law_rule_word" sRU f fd) (B : BN mg) (ms : mg "set" = none) (G : FnOk P w K mg base CX0 1 fB fdB ["_law_text"] spBA) (gm : mg "_law_bad_at" = some (.ref fB)) (gk : PySem.W.keepIn K (.ref fB) = true) (gb : Binds K fdB ["_law_text"] []) :
    FnOk P w K mg base CX0 2 f fd ["_law_r"] spRU := by
  refine F.ok scRU (fun vs H Q E h => ?_) (fun cdv A outer s H vs Q E hr h => ?_)
  · obtain ⟨T, t, xs, lo, hi, wd, rfl, _⟩ := h
    rfl
  · obtain ⟨T, t, xs, lo, hi, wd, rfl, ⟨hT, ht⟩, h60, hx, q⟩ := h
    refine ⟨_, pss_cons (ps_asg (pv 0) (pg_tup rfl (pgs_cons (pg_name (i := 1) scRU.nd rfl (.inl rfl)) (pgs_cons (pg_name (i := 2) scRU.nd rfl (.inl rfl)) (pgs_cons (pg_name (i := 3) scRU.nd rfl (.inl rfl)) (pgs_cons (pg_name (i := 4) scRU.nd rfl (.inl rfl)) pgs_nil))))))
      (C8.pss_cut (ps_set (i := 5) scRU.nd rfl (.inl rfl) (pe_and (pe_cmpR op_lt (pe_callB call_len_seq (by rfl) B.len PySem.boot_len (pa_cons (pv 1) pa_nil)) pe_int (nomark _)) (pe_one (pe_cmpR op_eq (pe_lenD rfl (by rfl) B.len (by rfl) ms (pv 1)) (pe_callB call_len_seq (by rfl) B.len PySem.boot_len (pa_cons (pv 1) pa_nil)) (nomark _)))))
      (pss_cons (ps_set (i := 6) scRU.nd rfl (.inl rfl) (pe_callB (cr_all rfl) (by rfl) B.all (by decide +kernel) (pa_cons (pe_lc (own := [("_law_word_here", 7)]) (g := gName 7) (tt := tYes) rfl scRU.nd (pi_tup (pv 1))
        (blkOk_by (N := ["_law_r", "_law_bars", "_law_least", "_law_upper", "_law_wide", "_law_good", "_law_plain_here", "_law_word_here"]) (sc := defScope sRU) (by decide +kernel)) (fun _ _ _ _ _ => pg_name (i := 7) scRU.nd rfl (Or.inl rfl)) (fun _ _ _ _ _ => pts_nil)
        (fun _ _ _ _ _ => pe_and (pe_chain op_lt op_lt pe_int (pe_callB call_len_str (by rfl) B.len PySem.boot_len (pa_cons (pv 7) pa_nil)) pe_int) (pe_one (pe_cmpR op_isN (pe_call G hr rfl gm gk gb .nil pass0 (pa_cons (pv 7) pa_nil)) pe_non (nomark _))))) pa_nil)))
      (pss_cons (ps_if (PW.pt (pw_or (pt_not (pt_val (pv 5))) (pw_or1 (pt_not (pt_val (pv 6)))))) (pss_one (ps_ret pe_str)) pss_nil)
      (pss_cons (ps_if (pt_not (pt_chain op_le op_le pe_int (pv 2) pe_int)) (pss_one (ps_ret pe_str)) pss_nil)
      (pss_cons (ps_if (PW.pt (pw_and (pt_cmpR op_notN (pv 3) pe_non (nomark _)) (pw_and1 (pt_not (pt_chain op_le op_le (pe_callB (call_max2 rfl) (by rfl) B.max (by decide +kernel) (pa_cons pe_int (pa_cons (pv 2) pa_nil))) (pv 3) pe_int))))) (pss_one (ps_ret pe_str)) pss_nil)
      (pss_one (ps_ret (pe_ifExp (PW.pt (pw_and (pt_cmpR op_notN (pv 4) pe_non (nomark _)) (pw_and1 (pt_not (pt_chain op_le op_le pe_int (pv 4) pe_int))))) pe_str pe_str)))))))), ?_⟩
    have sq : SqT K H t (xs.map V.str) := .inl (.inl ht)
    have hlen : (xs.map V.str).length = xs.length := List.length_map ..
    refine ⟨_, rfl, T, _, rfl, .inl (.inl hT), rfl, _, _, rfl, _, _, rfl, _, _, rfl, _, _, rfl, rfl, ?_⟩
    refine ⟨fun σ H1 => σ = [some (.ref T), some (.ref t), some (.int lo), some (vI hi), some (vI wd), some (.bl (decide (xs.length ≤ 6) && decide (cntD xs = xs.length))), none, none] ∧ H = H1, ?_, ?_⟩
    · refine ⟨_, rfl, t, _, rfl, .inr sq, _, _, rfl, rfl, _, rfl, ?_⟩
      rw [hlen]
      by_cases h7 : ((xs.length : Nat) : Int) < 7
      · rw [decide_eq_true h7]
        refine iteT ⟨_, rfl, t, xs, rfl, .inr sq, h60, _, rfl, t, _, rfl, .inr sq, rfl, ?_⟩
        rw [hlen]
        have e : decide (V.int (cntD xs : Nat) = V.int (xs.length : Nat)) = decide (cntD xs = xs.length) := by
          by_cases h : cntD xs = xs.length
          · rw [decide_eq_true h, h]
            exact decide_eq_true rfl
          · rw [decide_eq_false h]
            refine decide_eq_false fun z => h ?_
            have := V.int.inj z
            omega
        rw [decide_eq_true (p := xs.length ≤ 6) (by omega), Bool.true_and, ← e]
        exact ⟨rfl, rfl⟩
      · rw [decide_eq_false h7]
        refine iteF ?_
        rw [decide_eq_false (p := xs.length ≤ 6) (by omega), Bool.false_and]
        exact ⟨rfl, rfl⟩
    rintro _ _ ⟨rfl, rfl⟩
    refine ⟨_, rfl, t, rfl, ⟨_, sq⟩, fun D nD => ?_⟩
    refine lc_tup (K := K) (a := t) (xs := xs.map V.str) (fun i H2 => Same H H2 ∧ H2 D = some (.lst (((xs.map wordB).take i).map V.bl)))
      ⟨same_new nD, upd_same⟩ (fun i H2 _ h => .inl (.inl (h.1 _ _ ht))) (fun i v H2 hv h => ?_) (fun H2 h => ?_)
    · obtain ⟨s2, h3⟩ := h
      rw [List.getElem?_map] at hv
      cases hz : xs[i]? with
      | none =>
        rw [hz] at hv
        cases hv
      | some z =>
        rw [hz] at hv
        obtain rfl : V.str z = v := Option.some.inj hv
        have hg : (xs.map wordB)[i]? = some (wordB z) := by
          rw [List.getElem?_map, hz]
          rfl
        have hzl := hx z (List.mem_of_getElem? hz)
        have hzz : z.length ≤ sizeLine := by
          rw [len_tl]
          exact Nat.le_of_lt (small1000 hzl)
        have fin : ∀ (b : Bool) (H3 : Hp), Same H2 H3 → b = wordB z → ∃ ys, H3 D = some (.lst ys) ∧ ys.length < sizeLine ∧ (Same H (upd H3 D (.lst (ys ++ [V.bl b]))) ∧ upd H3 D (.lst (ys ++ [V.bl b])) D = some (.lst (((xs.map wordB).take (i + 1)).map V.bl))) := fun b H3 s3 eb => by
          refine ⟨_, s3 _ _ h3, ?_, same_put (s2.trans s3) nD, ?_⟩
          · rw [List.length_map, List.length_take, List.length_map]
            exact Nat.lt_of_le_of_lt (Nat.min_le_right _ _) (small1000 (by omega))
          · rw [upd_same, List.take_add_one, hg, List.map_append, eb]
            rfl
        have w6 := word6 z
        refine ⟨rfl, _, rfl, z, rfl, hzz, _, _, rfl, rfl, _, rfl, ?_⟩
        by_cases h0 : (0 : Int) < (z.length : Nat)
        · rw [decide_eq_true h0] at w6 ⊢
          refine iteT ⟨_, _, rfl, rfl, _, rfl, ?_⟩
          by_cases h6 : ((z.length : Nat) : Int) < 6
          · rw [decide_eq_true h6] at w6 ⊢
            refine iteT ⟨_, rfl, z, rfl, hzl, fun H3 s3 => ⟨rfl, ?_⟩⟩
            rw [vOpt_non]
            exact fin _ H3 s3 w6
          · rw [decide_eq_false h6] at w6 ⊢
            exact iteF (fin _ H2 (Same.refl H2) w6)
        · rw [decide_eq_false h0] at w6 ⊢
          exact iteF ⟨_, rfl, iteF (fin _ H2 (Same.refl H2) w6)⟩
    · obtain ⟨s2, h3⟩ := h
      rw [hlen, ← List.length_map (f := wordB), List.take_length] at h3
      refine ⟨D, xs.map wordB, rfl, SqL.of h3, ?_⟩
      have q' : ∀ z : Str, ruleWord xs lo hi wd = z → Q (.str z) H2 := fun z e => by
        rw [← e]
        exact q H2 s2
      clear q
      have ea : (xs.map wordB).all id = xs.all wordB := by
        rw [List.all_map]
        rfl
      rw [ea]
      have eW : wordsB xs = ((decide (xs.length ≤ 6) && decide (cntD xs = xs.length)) && xs.all wordB) := rfl
      cases hg1 : (decide (xs.length ≤ 6) && decide (cntD xs = xs.length)) with
      | false =>
        rw [hg1, Bool.false_and] at eW
        refine ⟨_, rfl, _, rfl, iteT (iteT (q' _ ?_))⟩
        unfold ruleWord partBad
        rw [if_neg (by rw [eW]; decide)]
        rfl
      | true =>
        rw [hg1, Bool.true_and] at eW
        refine ⟨_, rfl, _, rfl, iteF ⟨_, rfl, _, rfl, ?_⟩⟩
        cases ha1 : xs.all wordB with
        | false =>
          rw [ha1] at eW
          refine iteT (q' _ ?_)
          unfold ruleWord partBad
          rw [if_neg (by rw [eW]; decide)]
          rfl
        | true =>
          rw [ha1] at eW
          refine iteF ⟨_, rfl, _, _, rfl, rfl, _, rfl, ?_⟩
          have q1 : ∀ z : Str, (match (if lowB lo = true then (if highB lo hi = true then (if spanB wd = true then none else some (Str.ofString "span")) else some (Str.ofString "high")) else some (Str.ofString "low")) with | none => Str.ofString "" | some s => Str.ofString "badrule " ++ s) = z → Q (.str z) H2 := fun z e => q' z (by
            unfold ruleWord partBad
            rw [if_pos eW]
            exact e)
          clear q'
          have bad1 : lowB lo = false → Q (.str (Str.ofString "badrule low")) H2 := fun z => q1 _ (by rw [if_neg (by rw [z]; decide)]; rfl)
          by_cases h0 : (0 : Int) ≤ lo
          · rw [decide_eq_true h0]
            refine iteT ⟨_, _, rfl, rfl, _, rfl, ?_⟩
            by_cases h3' : lo ≤ 3
            · rw [decide_eq_true h3']
              refine iteF ?_
              have hlo : lowB lo = true := decide_eq_true ⟨h0, h3'⟩
              rw [hlo] at q1
              have hB : highB lo hi = false → Q (.str (Str.ofString "badrule high")) H2 := fun z => q1 _ (by rw [if_pos rfl, if_neg (by rw [z]; decide)]; rfl)
              have hS1 : highB lo hi = true → spanB wd = true → Q (.str (Str.ofString "")) H2 := fun z z2 => q1 _ (by rw [if_pos rfl, if_pos z, if_pos z2])
              have hS2 : highB lo hi = true → spanB wd = false → Q (.str (Str.ofString "badrule span")) H2 := fun z z2 => q1 _ (by rw [if_pos rfl, if_pos z, if_neg (by rw [z2]; decide)]; rfl)
              clear q1 bad1
              cases hi with
              | none =>
                refine ⟨.non, rfl, rfl, _, rfl, iteF (iteF ?_)⟩
                cases wd with
                | none =>
                  exact ⟨.non, rfl, rfl, _, rfl, iteF (iteF (hS1 rfl rfl))⟩
                | some k =>
                  refine ⟨.int k, rfl, rfl, _, rfl, iteT ⟨_, rfl, _, _, rfl, rfl, _, rfl, ?_⟩⟩
                  by_cases k1 : (1 : Int) ≤ k
                  · rw [decide_eq_true k1]
                    refine iteT ⟨_, _, rfl, rfl, _, rfl, ?_⟩
                    by_cases k4 : k ≤ 4
                    · rw [decide_eq_true k4]
                      exact iteF (hS1 rfl (decide_eq_true ⟨k1, k4⟩))
                    · rw [decide_eq_false k4]
                      exact iteT (hS2 rfl (decide_eq_false (fun z => k4 z.2)))
                  · rw [decide_eq_false k1]
                    exact iteF ⟨_, rfl, iteT (hS2 rfl (decide_eq_false (fun z => k1 z.1)))⟩
              | some g =>
                refine ⟨.int g, rfl, rfl, _, rfl, iteT ⟨_, rfl, _, _, rfl, _, rfl, _, _, rfl, rfl, _, rfl, ?_⟩⟩
                rw [max_if]
                by_cases g1 : max 1 lo ≤ g
                · rw [decide_eq_true g1]
                  refine iteT ⟨_, _, rfl, rfl, _, rfl, ?_⟩
                  by_cases g7 : g ≤ 7
                  · rw [decide_eq_true g7]
                    refine iteF ?_
                    cases wd with
                    | none =>
                      exact ⟨.non, rfl, rfl, _, rfl, iteF (iteF (hS1 (decide_eq_true ⟨g1, g7⟩) rfl))⟩
                    | some k =>
                      refine ⟨.int k, rfl, rfl, _, rfl, iteT ⟨_, rfl, _, _, rfl, rfl, _, rfl, ?_⟩⟩
                      by_cases k1 : (1 : Int) ≤ k
                      · rw [decide_eq_true k1]
                        refine iteT ⟨_, _, rfl, rfl, _, rfl, ?_⟩
                        by_cases k4 : k ≤ 4
                        · rw [decide_eq_true k4]
                          exact iteF (hS1 (decide_eq_true ⟨g1, g7⟩) (decide_eq_true ⟨k1, k4⟩))
                        · rw [decide_eq_false k4]
                          exact iteT (hS2 (decide_eq_true ⟨g1, g7⟩) (decide_eq_false (fun z => k4 z.2)))
                      · rw [decide_eq_false k1]
                        exact iteF ⟨_, rfl, iteT (hS2 (decide_eq_true ⟨g1, g7⟩) (decide_eq_false (fun z => k1 z.1)))⟩
                  · rw [decide_eq_false g7]
                    exact iteT (hB (decide_eq_false (fun z => g7 z.2)))
                · rw [decide_eq_false g1]
                  exact iteF ⟨_, rfl, iteT (hB (decide_eq_false (fun z => g1 z.1)))⟩
            · rw [decide_eq_false h3']
              exact iteT (bad1 (decide_eq_false (fun z => h3' z.2)))
          · rw [decide_eq_false h0]
            exact iteF ⟨_, rfl, iteT (bad1 (decide_eq_false (fun z => h0 z.1)))⟩
end
end K05

set_option Elab.async false
set_option linter.all false
set_option maxRecDepth 100000
set_option maxHeartbeats 4000000
namespace K05
open PySem PySem.Spec PyProof.Rows L2 Pw TL
section
variable {P : Program} {w : World} {K : PySem.W.Frag} {mg : Str → Option Value} {base : Heap}
/-! _law_far -/
abbrev sFA : Stmt := topS 53
theorem scFA : FnScope ["_law_draw", "_law_number"] ["_law_draw"] (defScope sFA) := ⟨rfl, rfl, rfl, by decide +kernel, rfl, by decide +kernel, by decide +kernel⟩
def spFA : Sp := fun vs H Q _ => ∃ (p q : Addr) (ns : List Int), vs = [.ref p] ∧ Dr p q ns H ∧ ∀ (i : Int) H', Go p q ns H H' → Q (.int i) H'
theorem ok_fa {f : Addr} {fd : FuncData} (F : Fun K "_law_far" "_law_far" sFA f fd) (R : PUOk P w K mg base) : FnOk P w K mg base CX0 2 f fd ["_law_draw"] spFA := by
  obtain ⟨fR, fdR, G, gm, gk, gb⟩ := R.ex
  refine F.ok scFA (fun vs H Q E h => ?_) (fun cdv A outer s H vs Q E hr h => ?_)
  · obtain ⟨p, q, ns, rfl, _⟩ := h
    rfl
  · obtain ⟨p, q, ns, rfl, hD, k⟩ := h
    refine ⟨_, pss_cons (ps_set (i := 1) scFA.nd rfl (.inl rfl) (pe_op op_add (pe_op op_add pe_int (pe_call G hr rfl gm gk gb .nil pass0 (pa_cons (pv 0) (pa_cons (pe_op op_pow pe_int pe_int) pa_nil))))
        (pe_op op_mul (pe_call G hr rfl gm gk gb .nil pass0 (pa_cons (pv 0) (pa_cons pe_int pa_nil))) (pe_op op_pow pe_int pe_int))))
      (pss_one (ps_ret (pe_ifExp (pt_cmpR op_eq (pe_call G hr rfl gm gk gb .nil pass0 (pa_cons (pv 0) (pa_cons pe_int pa_nil))) pe_int (nomark _)) (pv 1) (pe_un un_neg (pv 1))))), ?_⟩
    refine ⟨.ref p, rfl, 10, 9, rfl, rfl, ⟨by decide, by decide, by decide⟩, p, q, ns, _, rfl, by decide, by decide, hD, fun v H1 v0 v1 sx1 hD1 => ?_⟩
    refine ⟨_, _, rfl, rfl, .ref p, rfl, p, q, ns, 2, rfl, by decide, by decide, hD1, fun u H2 u0 u1 sx2 hD2 => ?_⟩
    refine ⟨10, 28, rfl, rfl, ⟨by decide, by decide, by decide⟩, _, _, rfl, rfl, .inl ⟨by omega, by omega⟩, _, _, rfl, rfl, ?_⟩
    refine ⟨.ref p, rfl, p, q, ns, 2, rfl, by decide, by decide, hD2, fun t H3 _ _ sx3 hD3 => ⟨rfl, _, rfl, ite2 (fun _ => ?_) (fun _ => ?_)⟩⟩
    · exact ⟨_, rfl, k _ H3 ((((Go.refl hD).next sx1 hD1).next sx2 hD2).next sx3 hD3)⟩
    · exact ⟨_, rfl, _, rfl, k _ H3 ((((Go.refl hD).next sx1 hD1).next sx2 hD2).next sx3 hD3)⟩
/-- parts, good or bad -/
def spPO (N : Nat) : Sp := fun vs H Q _ => ∃ (p q : Addr) (ns : List Int), vs = [.ref p] ∧ Dr p q ns H ∧ ∀ (T t : Addr) (xs : List Str) (lo : Int) (hi wd : Option Int) H', xs.length ≤ N → Short xs → H T = none → H t = none → Parts H' T t xs lo hi wd → Go p q ns H H' → Q (.ref T) H'
end
section
variable {P : Program} {w : World} {K : PySem.W.Frag} {mg : Str → Option Value} {base : Heap}
/-! _law_odd_parts -/
abbrev sOD : Stmt := topS 55
theorem scOD : FnScope ["_law_draw", "_law_bars", "_law_least", "_law_upper", "_law_wide", "_law_turn", "_law_way", "_law_k"] ["_law_draw"] (defScope sOD) := ⟨rfl, rfl, rfl, by decide +kernel, rfl, by decide +kernel, by decide +kernel⟩
theorem Go.mut {p q l : Addr} {ns : List Int} {H H1 : Hp} {o : HO} (g : Go p q ns H H1) (hD : Dr p q ns H) (n : H l = none) : Go p q ns H (upd H1 l o) := by
  have n1 : l ≠ p := hD.nn n
  have n2 : l ≠ q := (ne_of_none hD.1 n).symm
  refine ⟨fun b x e ne => ?_, g.dr.upd n1 n2⟩
  rw [upd_ne (ne_of_none e n)]
  exact g.sx b x e ne
/-- between the turns, and within one -/
def OJ (p q : Addr) (ns : List Int) (H : Hp) (N : Nat) : L2.St → Hp → Prop := fun σ H1 => ∃ (l : Addr) (xs : List Str) (lo : Int) (hi wd : Option Int) (y5 : Option V) (v : Int), σ = [some (.ref p), some (.ref l), some (.int lo), some (vI hi), some (vI wd), y5, some (.int v), none] ∧ H1 l = some (.lst (xs.map V.str)) ∧ H l = none ∧ xs.length ≤ N ∧ Short xs ∧ Go p q ns H H1
theorem ok_od {f fP fF fW : Addr} {fd fdP fdF fdW : FuncData} (F : Fun K "_law_odd_parts" "_law_odd_parts" sOD f fd) (B : BN mg) (R : PUOk P w K mg base)
    (GP : FnOk P w K mg base CX0 5 fP fdP ["_law_draw"] (spPA 6)) (pm : mg "_law_parts" = some (.ref fP)) (pk : PySem.W.keepIn K (.ref fP) = true) (pb : Binds K fdP ["_law_draw"] [])
    (GF : FnOk P w K mg base CX0 2 fF fdF ["_law_draw"] spFA) (fm : mg "_law_far" = some (.ref fF)) (fk : PySem.W.keepIn K (.ref fF) = true) (fb : Binds K fdF ["_law_draw"] [])
    (GW : FnOk P w K mg base CX0 3 fW fdW ["_law_draw"] spWD) (wm : mg "_law_word" = some (.ref fW)) (wk : PySem.W.keepIn K (.ref fW) = true) (wb : Binds K fdW ["_law_draw"] []) :
    FnOk P w K mg base CX0 6 f fd ["_law_draw"] (spPO 30) := by
  obtain ⟨fR, fdR, G, gm, gk, gb⟩ := R.ex
  refine F.ok scOD (fun vs H Q E h => ?_) (fun cdv A outer s H vs Q E hr h => ?_)
  · obtain ⟨p, q, ns, rfl, _⟩ := h
    rfl
  · obtain ⟨p, q, ns, rfl, hD, k⟩ := h
    have hr1 : Room 1 _ := hr.mono (by decide)
    have hr2 : Room 2 _ := hr.mono (by decide)
    have hr3 : Room 3 _ := hr.mono (by decide)
    refine ⟨_, pss_cons (ps_asg (pe_call GP hr rfl pm pk pb .nil pass0 (pa_cons (pv 0) pa_nil)) (pg_tup rfl (pgs_cons (pg_name (i := 1) scOD.nd rfl (.inl rfl)) (pgs_cons (pg_name (i := 2) scOD.nd rfl (.inl rfl)) (pgs_cons (pg_name (i := 3) scOD.nd rfl (.inl rfl)) (pgs_cons (pg_name (i := 4) scOD.nd rfl (.inl rfl)) pgs_nil))))))
      (pss_cons (ps_set (i := 1) scOD.nd rfl (.inl rfl) (pe_callTy call_list_of (by rfl) B.lst (by decide +kernel) (pa_cons (pv 1) pa_nil)))
      (pss_cons (ps_for PassesOwn.never rfl (pi_range1 rfl B.rng (pa_cons (pe_call G hr1 rfl gm gk gb .nil pass0 (pa_cons (pv 0) (pa_cons pe_int pa_nil))) pa_nil)) (pg_name (i := 5) scOD.nd rfl (.inl rfl))
        (pss_cons (ps_set (i := 6) scOD.nd rfl (.inl rfl) (pe_call G hr1 rfl gm gk gb .nil pass0 (pa_cons (pv 0) (pa_cons pe_int pa_nil))))
        (C8.pss_cut (ps_if (pt_cmpR op_eq (pv 6) pe_int (nomark _)) (pss_one (ps_set (i := 2) scOD.nd rfl (.inl rfl) (pe_ix ix_list (pe_lst (pa_cons (pe_un un_neg pe_int) (pa_cons pe_int (pa_cons pe_int (pa_cons pe_int (pa_cons (pe_call GF hr2 rfl fm fk fb .nil pass0 (pa_cons (pv 0) pa_nil)) pa_nil)))))) (pe_call G hr1 rfl gm gk gb .nil pass0 (pa_cons (pv 0) (pa_cons pe_int pa_nil))) (fun _ _ => rfl)))) pss_nil)
        (C8.pss_cut (ps_if (pt_cmpR op_eq (pv 6) pe_int (nomark _)) (pss_one (ps_set (i := 3) scOD.nd rfl (.inl rfl) (pe_ix ix_list (pe_lst (pa_cons pe_int (pa_cons pe_int (pa_cons pe_int (pa_cons pe_int (pa_cons (pe_op op_sub (pv 2) pe_int) (pa_cons (pv 2) (pa_cons pe_non (pa_cons (pe_call GF hr2 rfl fm fk fb .nil pass0 (pa_cons (pv 0) pa_nil)) pa_nil))))))))) (pe_call G hr1 rfl gm gk gb .nil pass0 (pa_cons (pv 0) (pa_cons pe_int pa_nil))) (fun _ _ => rfl)))) pss_nil)
        (C8.pss_cut (ps_if (pt_cmpR op_eq (pv 6) pe_int (nomark _)) (pss_one (ps_set (i := 4) scOD.nd rfl (.inl rfl) (pe_ix ix_list (pe_lst (pa_cons pe_int (pa_cons pe_int (pa_cons pe_int (pa_cons pe_int (pa_cons pe_non (pa_cons (pe_call GF hr2 rfl fm fk fb .nil pass0 (pa_cons (pv 0) pa_nil)) pa_nil))))))) (pe_call G hr1 rfl gm gk gb .nil pass0 (pa_cons (pv 0) (pa_cons pe_int pa_nil))) (fun _ _ => rfl)))) pss_nil)
        (C8.pss_cut (ps_if (pt_cmpR op_eq (pv 6) pe_int (nomark _)) (pss_one (ps_expr (pe_bm PySem.F.plainAttrs_list PySem.F.slot_list_append PySem.F.type_list_append mt_append (pv 1) (pa_cons (pe_ix ix_list (pe_lst (pa_cons pe_str (pa_cons pe_str (pa_cons pe_str (pa_cons pe_str (pa_cons pe_str (pa_cons pe_str (pa_cons pe_str pa_nil)))))))) (pe_call G hr1 rfl gm gk gb .nil pass0 (pa_cons (pv 0) (pa_cons pe_int pa_nil))) (fun _ _ => rfl)) pa_nil)))) pss_nil)
        (C8.pss_cut (ps_if (pt_cmpR op_eq (pv 6) pe_int (nomark _)) (pss_one (ps_set (i := 1) scOD.nd rfl (.inl rfl) (pe_op op_cat (pv 1) (pe_slice sl_list (pv 1) po_none (po_some pe_int))))) pss_nil)
        (pss_one (ps_if (pt_cmpR op_eq (pv 6) pe_int (nomark _)) (pss_one (ps_set (i := 1) scOD.nd rfl (.inl rfl) (pe_op op_cat (pv 1)
          (pe_lc (own := [("_law_k", 7)]) (g := gName 7) (tt := tYes) rfl scOD.nd (pi_range1 rfl B.rng (pa_cons (pe_call G hr1 rfl gm gk gb .nil pass0 (pa_cons (pv 0) (pa_cons pe_int pa_nil))) pa_nil)) (blkOk_by (N := ["_law_draw", "_law_bars", "_law_least", "_law_upper", "_law_wide", "_law_turn", "_law_way", "_law_k"]) (sc := defScope sOD) (by decide +kernel))
            (fun _ _ _ _ _ => pg_name (i := 7) scOD.nd rfl (Or.inl rfl)) (fun _ _ _ _ _ => pts_nil) (fun _ _ _ _ _ => pe_call GW hr3 rfl wm wk wb .nil pass0 (pa_cons (pv 0) pa_nil)))))) pss_nil)))))))))
      (pss_one (ps_ret (pe_tup (pa_cons (pe_callTy call_tuple_of (by rfl) B.tup (by decide +kernel) (pa_cons (pv 1) pa_nil)) (pa_cons (pv 2) (pa_cons (pv 3) (pa_cons (pv 4) pa_nil))))))))), ?_⟩
    refine ⟨.ref p, rfl, p, q, ns, rfl, hD, fun T t xs lo hi wd H1 h6 hsg _ _ nT nt hP g1 => ?_⟩
    have hs := hsg.1
    obtain ⟨hT1, ht1⟩ := hP
    refine ⟨T, _, rfl, .inl (.inl hT1), rfl, _, _, rfl, _, _, rfl, _, _, rfl, _, _, rfl, rfl, ?_⟩
    refine ⟨_, rfl, t, _, rfl, .inr (.inl (.inl ht1)), fun l nl => ?_⟩
    have g2 := g1.new (o := .lst (xs.map V.str)) nl
    have lH : H l = none := g1.free nl
    refine ⟨.ref p, rfl, p, q, ns, 3, rfl, by decide, by decide, g2.dr, fun m H3 m0 m1 sx3 hD3 => ?_⟩
    have g3 := g2.next sx3 hD3
    have hl3 : H3 l = some (.lst (xs.map V.str)) := sx3 _ _ upd_same (hD.nn lH)
    obtain ⟨n, rfl⟩ : ∃ n : Nat, m = (n : Int) := ⟨m.toNat, by omega⟩
    refine ⟨(n : Int), rfl, by omega, by omega, for_range (lo := 0) (n := n) (fun i σ H4 => ∃ (l : Addr) (xs : List Str) (lo : Int) (hi wd : Option Int) (y5 y6 : Option V), σ = [some (.ref p), some (.ref l), some (.int lo), some (vI hi), some (vI wd), y5, y6, none] ∧ H4 l = some (.lst (xs.map V.str)) ∧ H l = none ∧ xs.length ≤ 6 + 8 * i ∧ Short xs ∧ Go p q ns H H4)
      ⟨l, xs, lo, hi, wd, none, none, rfl, hl3, lH, by omega, hs, g3⟩ (fun i σ H4 hi4 h => ?_) (fun σ H4 h => ?_)⟩
    · clear hs hsg hT1 ht1 g1 g2 g3 hl3 hD3 sx3 nl h6 nT nt lH
      obtain ⟨l, xs, lo, hi, wd, y5, y6, rfl, hl, lH, hx, hs, g⟩ := h
      have lp : l ≠ p := hD.nn lH
      refine ⟨.ref p, rfl, p, q, ns, 6, rfl, by decide, by decide, g.dr, fun v H5 _ _ sx5 hD5 => ?_⟩
      have g5 := g.next sx5 hD5
      have hl5 : H5 l = some (.lst (xs.map V.str)) := sx5 _ _ hl lp
      refine ⟨OJ p q ns H (6 + 8 * i), ?_, ?_⟩
      · have stay : OJ p q ns H (6 + 8 * i) [some (.ref p), some (.ref l), some (.int lo), some (vI hi), some (vI wd), some (.int (0 + (i : Int))), some (.int v), none] H5 := ⟨l, xs, lo, hi, wd, _, v, rfl, hl5, lH, hx, hs, g5⟩
        refine ⟨_, rfl, rfl, _, rfl, ite2 (fun _ => ?_) (fun _ => stay)⟩
        refine ⟨1, rfl, .ref p, rfl, p, q, ns, rfl, g5.dr, fun z H6 g6 => ⟨by show 5 ≤ sizeLine; decide, fun D nD => ?_⟩⟩
        have g7 := (g5.next g6.sx g6.dr).new (o := .lst [.int (-1), .int 4, .int 3, .int 0, .int z]) nD
        refine ⟨.ref p, rfl, p, q, ns, 5, rfl, by decide, by decide, g7.dr, fun u H8 u0 u1 sx8 hD8 => ?_⟩
        have hDp : D ≠ p := g6.dr.nn nD
        have hm : ∃ m : Int, atI [V.int (-1), V.int 4, V.int 3, V.int 0, V.int z] u = some (.int m) := by
          have e5 : u = 0 ∨ u = 1 ∨ u = 2 ∨ u = 3 ∨ u = 4 := by omega
          rcases e5 with rfl | rfl | rfl | rfl | rfl <;> exact ⟨_, rfl⟩
        obtain ⟨m, hm⟩ := hm
        exact ⟨D, _, u, .int m, rfl, rfl, SqL.of (sx8 _ _ upd_same hDp), hm, l, xs, m, hi, wd, _, v, rfl, sx8 _ _ (same_new nD _ _ (g6.sx _ _ hl5 lp)) lp, lH, hx, hs, g7.next sx8 hD8⟩
      clear hl5 g5 hl lp sx5 hD5 hs hx lH g
      rintro _ H5 ⟨l, xs, lo, hi, wd, y5, v, rfl, hl5, lH, hx, hs, g5⟩
      have lp : l ≠ p := hD.nn lH
      refine ⟨OJ p q ns H (6 + 8 * i), ?_, ?_⟩
      · have stay : OJ p q ns H (6 + 8 * i) [some (.ref p), some (.ref l), some (.int lo), some (vI hi), some (vI wd), y5, some (.int v), none] H5 := ⟨l, xs, lo, hi, wd, _, v, rfl, hl5, lH, hx, hs, g5⟩
        refine ⟨_, rfl, rfl, _, rfl, ite2 (fun _ => ?_) (fun _ => stay)⟩
        refine ⟨_, rfl, _, _, rfl, rfl, _, rfl, .ref p, rfl, p, q, ns, rfl, g5.dr, fun z H6 g6 => ⟨by show 8 ≤ sizeLine; decide, fun D nD => ?_⟩⟩
        have g7 := (g5.next g6.sx g6.dr).new (o := .lst [.int 0, .int 8, .int 7, .int 1, .int (lo - 1), .int lo, .non, .int z]) nD
        refine ⟨.ref p, rfl, p, q, ns, 8, rfl, by decide, by decide, g7.dr, fun u H8 u0 u1 sx8 hD8 => ?_⟩
        have hDp : D ≠ p := g6.dr.nn nD
        have hm : ∃ m : Option Int, atI [V.int 0, V.int 8, V.int 7, V.int 1, V.int (lo - 1), V.int lo, V.non, V.int z] u = some (vI m) := by
          have e8 : u = 0 ∨ u = 1 ∨ u = 2 ∨ u = 3 ∨ u = 4 ∨ u = 5 ∨ u = 6 ∨ u = 7 := by omega
          rcases e8 with rfl | rfl | rfl | rfl | rfl | rfl | rfl | rfl
          · exact ⟨some 0, rfl⟩
          · exact ⟨some 8, rfl⟩
          · exact ⟨some 7, rfl⟩
          · exact ⟨some 1, rfl⟩
          · exact ⟨some (lo - 1), rfl⟩
          · exact ⟨some lo, rfl⟩
          · exact ⟨none, rfl⟩
          · exact ⟨some z, rfl⟩
        obtain ⟨m, hm⟩ := hm
        exact ⟨D, _, u, vI m, rfl, rfl, SqL.of (sx8 _ _ upd_same hDp), hm, l, xs, lo, m, wd, _, v, rfl, sx8 _ _ (same_new nD _ _ (g6.sx _ _ hl5 lp)) lp, lH, hx, hs, g7.next sx8 hD8⟩
      clear hl5 g5 lp hs hx lH
      rintro _ H5 ⟨l, xs, lo, hi, wd, y5, v, rfl, hl5, lH, hx, hs, g5⟩
      have lp : l ≠ p := hD.nn lH
      refine ⟨OJ p q ns H (6 + 8 * i), ?_, ?_⟩
      · have stay : OJ p q ns H (6 + 8 * i) [some (.ref p), some (.ref l), some (.int lo), some (vI hi), some (vI wd), y5, some (.int v), none] H5 := ⟨l, xs, lo, hi, wd, _, v, rfl, hl5, lH, hx, hs, g5⟩
        refine ⟨_, rfl, rfl, _, rfl, ite2 (fun _ => ?_) (fun _ => stay)⟩
        refine ⟨.ref p, rfl, p, q, ns, rfl, g5.dr, fun z H6 g6 => ⟨by show 6 ≤ sizeLine; decide, fun D nD => ?_⟩⟩
        have g7 := (g5.next g6.sx g6.dr).new (o := .lst [.int 0, .int 5, .int 4, .int 1, .non, .int z]) nD
        refine ⟨.ref p, rfl, p, q, ns, 6, rfl, by decide, by decide, g7.dr, fun u H8 u0 u1 sx8 hD8 => ?_⟩
        have hDp : D ≠ p := g6.dr.nn nD
        have hm : ∃ m : Option Int, atI [V.int 0, V.int 5, V.int 4, V.int 1, V.non, V.int z] u = some (vI m) := by
          have e8 : u = 0 ∨ u = 1 ∨ u = 2 ∨ u = 3 ∨ u = 4 ∨ u = 5 := by omega
          rcases e8 with rfl | rfl | rfl | rfl | rfl | rfl
          · exact ⟨some 0, rfl⟩
          · exact ⟨some 5, rfl⟩
          · exact ⟨some 4, rfl⟩
          · exact ⟨some 1, rfl⟩
          · exact ⟨none, rfl⟩
          · exact ⟨some z, rfl⟩
        obtain ⟨m, hm⟩ := hm
        exact ⟨D, _, u, vI m, rfl, rfl, SqL.of (sx8 _ _ upd_same hDp), hm, l, xs, lo, hi, m, _, v, rfl, sx8 _ _ (same_new nD _ _ (g6.sx _ _ hl5 lp)) lp, lH, hx, hs, g7.next sx8 hD8⟩
      clear hl5 g5 lp hs hx lH
      rintro _ H5 ⟨l, xs, lo, hi, wd, y5, v, rfl, hl5, lH, hx, hs, g5⟩
      have lp : l ≠ p := hD.nn lH
      refine ⟨OJ p q ns H (7 + 8 * i), ?_, ?_⟩
      · have stay : OJ p q ns H (7 + 8 * i) [some (.ref p), some (.ref l), some (.int lo), some (vI hi), some (vI wd), y5, some (.int v), none] H5 := ⟨l, xs, lo, hi, wd, _, v, rfl, hl5, lH, by omega, hs, g5⟩
        refine ⟨_, rfl, rfl, _, rfl, ite2 (fun _ => ?_) (fun _ => stay)⟩
        refine ⟨.ref l, rfl, .inl ⟨rfl, _, SqL.of hl5⟩, by show 7 ≤ sizeLine; decide, fun D nD => ?_⟩
        have g7 := g5.new (o := .lst [.str "", .str "010101", .str "2", .str "0", .str "1", .str "00000", .str "01 "]) nD
        refine ⟨.ref p, rfl, p, q, ns, 7, rfl, by decide, by decide, g7.dr, fun u H8 u0 u1 sx8 hD8 => ?_⟩
        have hDp : D ≠ p := g5.dr.nn nD
        have hm : ∃ m : Str, atI [V.str "", V.str "010101", V.str "2", V.str "0", V.str "1", V.str "00000", V.str "01 "] u = some (.str m) ∧ (tl m).length ≤ 1000 ∧ PyData.strOk m = true := by
          have e8 : u = 0 ∨ u = 1 ∨ u = 2 ∨ u = 3 ∨ u = 4 ∨ u = 5 ∨ u = 6 := by omega
          rcases e8 with rfl | rfl | rfl | rfl | rfl | rfl | rfl <;> exact ⟨_, rfl, by decide, by decide +kernel⟩
        obtain ⟨m, hm, hml⟩ := hm
        have hl8 : H8 l = some (.lst (xs.map V.str)) := sx8 _ _ (same_new nD _ _ hl5) lp
        refine ⟨D, _, u, .str m, rfl, rfl, SqL.of (sx8 _ _ upd_same hDp), hm, l, _, _, rfl, rfl, hl8, ?_, ?_⟩
        · rw [List.length_map]
          exact small1000 (by omega)
        · refine ⟨l, xs ++ [m], lo, hi, wd, _, v, rfl, ?_, lH, ?_, ?_, (g7.next sx8 hD8).mut hD lH⟩
          · rw [upd_same, List.map_append]
            rfl
          · rw [List.length_append]
            show xs.length + 1 ≤ _
            omega
          · intro z hz
            rcases List.mem_append.mp hz with h | h
            · exact hs z h
            · rw [List.mem_singleton.mp h]
              exact hml
      clear hl5 g5 lp hs hx lH
      rintro _ H5 ⟨l, xs, lo, hi, wd, y5, v, rfl, hl5, lH, hx, hs, g5⟩
      have lp : l ≠ p := hD.nn lH
      refine ⟨OJ p q ns H (8 + 8 * i), ?_, ?_⟩
      · have stay : OJ p q ns H (8 + 8 * i) [some (.ref p), some (.ref l), some (.int lo), some (vI hi), some (vI wd), y5, some (.int v), none] H5 := ⟨l, xs, lo, hi, wd, _, v, rfl, hl5, lH, by omega, hs, g5⟩
        refine ⟨_, rfl, rfl, _, rfl, ite2 (fun _ => ?_) (fun _ => stay)⟩
        refine ⟨_, rfl, .ref l, rfl, 1, rfl, l, _, rfl, SqL.of hl5, fun t nt => ?_⟩
        have ec : cutV (xs.map V.str) none (some 1) = (xs.take 1).map V.str := by
          unfold cutV
          rw [show HT.sIx (xs.map V.str).length (xs.map V.str).length (some 1) = min 1 (xs.map V.str).length from HT.sIx_nat _ _ 1]
          show List.take (min 1 (xs.map V.str).length - 0) (xs.map V.str) = _
          rw [Nat.sub_zero, List.map_take]
          exact (List.take_eq_take_min).symm
        rw [ec]
        have g6 := g5.new (o := .lst ((xs.take 1).map V.str)) nt
        have tl1 : (xs.take 1).length ≤ 1 := by
          rw [List.length_take]
          omega
        refine ⟨l, t, _, _, rfl, rfl, same_new nt _ _ hl5, upd_same, ?_, fun c nc => ?_⟩
        · rw [List.length_map, List.length_map]
          exact Nat.le_of_lt (small1000 (by omega))
        · refine ⟨c, xs ++ xs.take 1, lo, hi, wd, _, v, rfl, ?_, g6.free nc, ?_, ?_, g6.new nc⟩
          · rw [upd_same, List.map_append]
          · rw [List.length_append]
            omega
          · intro z hz
            rcases List.mem_append.mp hz with h | h
            · exact hs z h
            · exact hs z (List.mem_of_mem_take h)
      clear hl5 g5 lp hs hx lH
      rintro _ H5 ⟨l, xs, lo, hi, wd, y5, v, rfl, hl5, lH, hx, hs, g5⟩
      have lp : l ≠ p := hD.nn lH
      refine ⟨_, rfl, rfl, _, rfl, ite2 (fun _ => ?_) (fun _ => ⟨l, xs, lo, hi, wd, _, _, rfl, hl5, lH, by omega, hs, g5⟩)⟩
      refine ⟨_, rfl, .ref p, rfl, p, q, ns, 7, rfl, by decide, by decide, g5.dr, fun m H6 m0 m1 sx6 hD6 => ?_⟩
      have g6 := g5.next sx6 hD6
      have hl6 : H6 l = some (.lst (xs.map V.str)) := sx6 _ _ hl5 lp
      obtain ⟨n2, rfl⟩ : ∃ n2 : Nat, m = (n2 : Int) := ⟨m.toNat, by omega⟩
      refine ⟨(n2 : Int), rfl, by omega, by omega, fun D nD => ?_⟩
      have DH : H D = none := g6.free nD
      have lD : l ≠ D := ne_of_none hl6 nD
      refine lc_range (lo := 0) (n := n2) (fun j H7 => Go p q ns H H7 ∧ H7 l = some (.lst (xs.map V.str)) ∧ ∃ zs : List Str, H7 D = some (.lst (zs.map V.str)) ∧ zs.length ≤ j ∧ Short zs)
        ⟨g6.new nD, same_new nD _ _ hl6, [], upd_same, Nat.le_refl _, fun x hx => nomatch hx⟩ (fun j H7 hj h => ?_) (fun H7 h => ?_)
      · obtain ⟨g7, hl7, zs, hD7, hzl, hzs⟩ := h
        have Dp : D ≠ p := hD.nn DH
        refine ⟨rfl, .ref p, rfl, p, q, ns, rfl, g7.dr, fun x H8 hx8 hok8 _ sx8 hD8 => ⟨_, sx8 _ _ hD7 Dp, ?_, (g7.next sx8 hD8).mut hD DH, ?_, zs ++ [x], ?_, ?_, ?_⟩⟩
        · rw [List.length_map]
          exact small1000 (by omega)
        · rw [upd_ne lD]
          exact sx8 _ _ hl7 lp
        · rw [upd_same, List.map_append]
          rfl
        · rw [List.length_append]
          show zs.length + 1 ≤ j + 1
          omega
        · intro z hz
          rcases List.mem_append.mp hz with h | h
          · exact hzs z h
          · rw [List.mem_singleton.mp h]
            exact ⟨by omega, hok8⟩
      · obtain ⟨g7, hl7, zs, hD7, hzl, hzs⟩ := h
        refine ⟨l, D, _, _, rfl, rfl, hl7, hD7, ?_, fun c nc => ?_⟩
        · rw [List.length_map, List.length_map]
          exact Nat.le_of_lt (small1000 (by omega))
        · refine ⟨c, xs ++ zs, lo, hi, wd, _, _, rfl, ?_, g7.free nc, ?_, ?_, g7.new nc⟩
          · rw [upd_same, List.map_append]
          · rw [List.length_append]
            omega
          · intro z hz
            rcases List.mem_append.mp hz with h | h
            · exact hs z h
            · exact hzs z h
    · obtain ⟨l, xs, lo, hi, wd, y5, y6, rfl, hl, lH, hx, hs, g⟩ := h
      refine ⟨_, rfl, l, _, rfl, .inl ⟨SqL.of hl, fun t nt => ?_⟩⟩
      have g7 := g.new (o := .tup (xs.map V.str)) nt
      refine ⟨_, rfl, _, rfl, _, rfl, by show 4 ≤ sizeLine; decide, fun T nT => ?_⟩
      have e : t ≠ T := ne_of_none upd_same nT
      refine k T t xs lo hi wd _ (by omega) hs (g7.free nT) (g.free nt) ⟨upd_same, ?_⟩ (g7.new nT)
      rw [upd_ne e, upd_same]
end
end K05

set_option Elab.async false
set_option linter.all false
set_option maxRecDepth 100000
set_option maxHeartbeats 4000000
namespace K05
open PySem PySem.Spec PyProof.Rows L2 Pw TL
section
variable {P : Program} {w : World} {K : PySem.W.Frag} {mg : Str → Option Value} {base : Heap}
/-- what a rule tells of itself -/
structure RuleM (P : Program) (w : World) (K : PySem.W.Frag) (mg : Str → Option Value) (base : Heap) (R : Addr) : Prop where
  c : RuleC K R
  words : UseM P w K mg base CX0 1 R "words" ["self"] (spMW R)
  low : UseM P w K mg base CX0 1 R "low" ["self"] (spMO R fun lo _ _ => .int lo)
  high : UseM P w K mg base CX0 1 R "high" ["self"] (spMO R fun _ hi _ => vI hi)
  span : UseM P w K mg base CX0 1 R "span" ["self"] (spMO R fun _ _ sp => vI sp)
/-! _law_same_rule -/
abbrev sSR : Stmt := topS 56
theorem scSR : FnScope ["_law_made", "_law_r", "_law_told"] ["_law_made", "_law_r"] (defScope sSR) := ⟨rfl, rfl, rfl, by decide +kernel, rfl, by decide +kernel, by decide +kernel⟩
def spSR (R : Addr) : Sp := fun vs H Q _ => ∃ (r p T t : Addr) (ys xs : List Str) (lo : Int) (hi wd : Option Int), vs = [.ref r, .ref T] ∧ RuleAt H R r p ys lo hi wd ∧ ys.Perm xs ∧ sortedS ys = true ∧ Parts H T t xs lo hi wd ∧ xs.length ≤ 60 ∧ ∀ H', Same H H' → Q (.bl true) H'
theorem ok_sr {f R fL : Addr} {fd fdL : FuncData} (F : Fun K "_law_same_rule" "_law_same_rule" sSR f fd) (M : RuleM P w K mg base R) (ms : mg "sorted" = none)
    (GL : FnOk P w K mg base CX0 4 fL fdL ["_law_found", "_law_due"] (spLK K 3)) (lm : mg "_law_like" = some (.ref fL)) (lk : PySem.W.keepIn K (.ref fL) = true) (lb : Binds K fdL ["_law_found", "_law_due"] []) :
    FnOk P w K mg base CX0 5 f fd ["_law_made", "_law_r"] (spSR R) := by
  obtain ⟨f1, fd1, G1, m1, b1⟩ := M.words.ex
  obtain ⟨f2, fd2, G2, m2, b2⟩ := M.low.ex
  obtain ⟨f3, fd3, G3, m3, b3⟩ := M.high.ex
  obtain ⟨f4, fd4, G4, m4, b4⟩ := M.span.ex
  refine F.ok scSR (fun vs H Q E h => ?_) (fun cdv A outer s H vs Q E hr h => ?_)
  · obtain ⟨r, p, T, t, ys, xs, lo, hi, wd, rfl, _⟩ := h
    rfl
  · obtain ⟨r, p, T, t, ys, xs, lo, hi, wd, rfl, hR, hp, hs, ⟨hT, ht⟩, h60, q⟩ := h
    have hr1 : Room 1 _ := hr.mono (by decide)
    refine ⟨_, pss_cons (ps_set (i := 2) scSR.nd rfl (.inl rfl) (pe_tup (pa_cons (pe_meth0 (pv 0) M.c.c m1 G1 hr1 b1 .nil pass0) (pa_cons (pe_meth0 (pv 0) M.c.c m2 G2 hr1 b2 .nil pass0) (pa_cons (pe_meth0 (pv 0) M.c.c m3 G3 hr1 b3 .nil pass0) (pa_cons (pe_meth0 (pv 0) M.c.c m4 G4 hr1 b4 .nil pass0) pa_nil))))))
      (pss_one (ps_ret (pe_call GL hr rfl lm lk lb .nil pass0 (pa_cons (pv 2) (pa_cons (pe_tup (pa_cons (pe_callB cr_sortedST (by rfl) ms (by decide +kernel) (pa_cons (pe_ix ix_tup (pv 1) pe_int (fun _ _ => rfl)) pa_nil)) (pa_cons (pe_ix ix_tup (pv 1) pe_int (fun _ _ => rfl)) (pa_cons (pe_ix ix_tup (pv 1) pe_int (fun _ _ => rfl)) (pa_cons (pe_ix ix_tup (pv 1) pe_int (fun _ _ => rfl)) pa_nil))))) pa_nil))))), ?_⟩
    obtain ⟨dx, h1, h2⟩ := id hR
    refine ⟨.ref r, rfl, r, dx, _, rfl, h1, rfl, r, p, ys, lo, hi, wd, rfl, hR, fun l nl => ?_⟩
    have s1 : Same H (upd H l (.lst (ys.map V.str))) := same_new nl
    have hR1 := hR.same s1
    refine ⟨.ref r, rfl, r, dx, _, rfl, s1 _ _ h1, rfl, r, p, ys, lo, hi, wd, rfl, hR1, ?_⟩
    refine ⟨.ref r, rfl, r, dx, _, rfl, s1 _ _ h1, rfl, r, p, ys, lo, hi, wd, rfl, hR1, ?_⟩
    refine ⟨.ref r, rfl, r, dx, _, rfl, s1 _ _ h1, rfl, r, p, ys, lo, hi, wd, rfl, hR1, ?_⟩
    refine ⟨by show 4 ≤ sizeLine; decide, fun t4 n4 => ?_⟩
    have s4 := s1.trans (same_new (o := .tup [.ref l, .int lo, vI hi, vI wd]) n4)
    have sqT : SqT K (upd (upd H l (.lst (ys.map V.str))) t4 (.tup [.ref l, .int lo, vI hi, vI wd])) T [.ref t, .int lo, vI hi, vI wd] := .inl (.inl (s4 _ _ hT))
    refine ⟨_, rfl, .ref T, rfl, T, _, 0, .ref t, rfl, rfl, sqT, rfl, t, xs, rfl, .inr (.inl (.inl (s4 _ _ ht))), by omega, fun zs c hz hzs nc => ?_⟩
    have s5 := s4.trans (same_new (o := .lst (zs.map V.str)) nc)
    have sqT5 := Same.tup (same_new (o := .lst (zs.map V.str)) nc) sqT
    obtain rfl : zs = ys := sortedS_one (hz.trans hp.symm) hzs hs
    refine ⟨.ref T, rfl, T, _, 1, .int lo, rfl, rfl, sqT5, rfl, .ref T, rfl, T, _, 2, vI hi, rfl, rfl, sqT5, rfl, .ref T, rfl, T, _, 3, vI wd, rfl, rfl, sqT5, rfl, by show 4 ≤ sizeLine; decide, fun t6 n6 => ?_⟩
    have s6 := s5.trans (same_new (o := .tup [.ref c, .int lo, vI hi, vI wd]) n6)
    have e4 : t4 ≠ c := ne_of_none upd_same nc
    have el : l ≠ t4 := ne_of_none upd_same n4
    refine ⟨_, _, rfl, .tup (.inl (.inl (same_new n6 _ _ (same_new nc _ _ upd_same)))) (.inl (.inl upd_same)) rfl (by show 4 ≤ 1001; decide) (fun i a b ha hb => ?_), fun H' sm => q H' (s6.trans sm)⟩
    match i, ha, hb with
    | 0, ha, hb =>
      obtain rfl : V.ref l = a := Option.some.inj ha
      obtain rfl : V.ref c = b := Option.some.inj hb
      refine lk_strs (l := zs) (same_new n6 _ _ (same_new nc _ _ (same_new n4 _ _ upd_same))) (same_new n6 _ _ upd_same) ?_
      rw [hp.length_eq]
      omega
    | 1, ha, hb =>
      obtain rfl : V.int lo = a := Option.some.inj ha
      obtain rfl : V.int lo = b := Option.some.inj hb
      exact .int lo
    | 2, ha, hb =>
      obtain rfl : vI hi = a := Option.some.inj ha
      obtain rfl : vI hi = b := Option.some.inj hb
      exact lk_vI hi
    | 3, ha, hb =>
      obtain rfl : vI wd = a := Option.some.inj ha
      obtain rfl : vI wd = b := Option.some.inj hb
      exact lk_vI wd
    | _ + 4, ha, _ => simp at ha
end
end K05

set_option Elab.async false
set_option linter.all false
set_option maxRecDepth 100000
set_option maxHeartbeats 4000000
namespace K05
open PySem PySem.Spec PyProof.Rows L2 Pw TL
section
variable {P : Program} {w : World} {K : PySem.W.Frag} {mg : Str → Option Value} {base : Heap}
open LamX
/-! _law_why -/
abbrev sWH : Stmt := topS 51
theorem scWH : FnScope ["_law_ask", "_law_told", "_law_word_here", "_law_e"] ["_law_ask"] (defScope sWH) := ⟨rfl, rfl, rfl, by decide +kernel, rfl, by decide +kernel, by decide +kernel⟩
/-- the classes that why names -/
structure ClsW (K : PySem.W.Frag) (mg : Str → Option Value) (C1 C : Addr) : Prop where
  row : mg "BadRow" = some (.ref C1)
  rule : mg "BadRule" = some (.ref C)
  xf : XfC K C
  no : PySem.W.findIn K (.ref C) "part" = some none
  me : PySem.W.exmOne K (.ref C) (.ref C) = some true
  ne : PySem.W.exmOne K (.ref C) (.ref C1) = some false
/-- word = 'badrule ' + e.part -/
def tsRule (C : Addr) : Addr → Value → Option Addr → TS := fun a cls d => tAsg (tOp (fun x y H Q => ∃ i j, x = .str i ∧ y = .str j ∧ i.length + j.length ≤ sizeLine ∧ Q (.str (i ++ j)) H) (tC (.str "badrule ")) (tXf a cls d C "part" (tVar 3))) (gName 2)
def tsNo : Addr → Value → Option Addr → TS := fun _ _ _ => tNever
def whyL (C1 C C3 C4 C5 C6 C7 C8 : Addr) : List (Value × (Addr → Value → Option Addr → TS)) := [(.ref C1, tsNo), (.ref C, tsRule C), (.ref C3, tsNo), (.ref C4, tsNo), (.ref C5, tsNo), (.ref C6, tsNo), (.ref C7, tsNo), (.ref C8, tsNo)]
theorem why_ok {X : Cx} {C1 C C3 C4 C5 C6 C7 C8 g : Addr} {cdg : Value} {q : Str} (T : ClsW X.K X.mg C1 C)
    (h3 : X.mg "BadPace" = some (.ref C3)) (h4 : X.mg "TooWide" = some (.ref C4)) (h5 : X.mg "Unlawful" = some (.ref C5)) (h6 : X.mg "BadLength" = some (.ref C6)) (h7 : X.mg "BadText" = some (.ref C7)) (h8 : X.mg "PulseError" = some (.ref C8)) :
    GivesW X ["_law_ask", "_law_told", "_law_word_here", "_law_e"] "_law_why" (defScope sWH) g cdg (defBody sWH) "_law_ask" q (TTwhy X.K (whyL C1 C C3 C4 C5 C6 C7 C8)) := by
  refine why_gives (tn := "_law_told") (wn := "_law_word_here") (en := "_law_e") scWH rfl rfl rfl (by decide) (by decide) (by decide) (by decide) (fun s H => ?_)
  refine .cons ⟨rfl, by decide, .inl T.row⟩ (fun _ _ _ _ _ _ _ => pss_never) ?_
  refine .cons ⟨rfl, by decide, .inl T.rule⟩ (fun a oe cls d pn hz hf => pss_one (ps_set (i := 2) scWH.nd rfl (.inl rfl) (pe_op op_add_str pe_str (pe_xf T.xf T.no hz hf (pv 3))))) ?_
  exact (.cons ⟨rfl, by decide, .inl h3⟩ (fun _ _ _ _ _ _ _ => pss_never) (.cons ⟨rfl, by decide, .inl h4⟩ (fun _ _ _ _ _ _ _ => pss_never) (.cons ⟨rfl, by decide, .inl h5⟩ (fun _ _ _ _ _ _ _ => pss_never)
    (.cons ⟨rfl, by decide, .inl h6⟩ (fun _ _ _ _ _ _ _ => pss_never) (.cons ⟨rfl, by decide, .inl h7⟩ (fun _ _ _ _ _ _ _ => pss_never) (.cons ⟨rfl, by decide, .inl h8⟩ (fun _ _ _ _ _ _ _ => pss_never) .nil))))))
/-- what why tells of the making of a rule -/
theorem why_rule {C1 C C3 C4 C5 C6 C7 C8 : Addr} {H : Hp} {Q : VK} (me : PySem.W.exmOne K (.ref C) (.ref C) = some true) (ne : PySem.W.exmOne K (.ref C) (.ref C1) = some false) (pb : Option Str) (hpb : ∀ s, pb = some s → (tl s).length ≤ 10) (Gd : V → Hp → Prop)
    (hQ1 : ∀ (p : Addr) (G G0 : Hp) (v : V), pb = none → Same H G0 → Same G0 G → G p = some (.tup [v, .str ""]) → H p = none → Gd v G0 → Q (.ref p) G)
    (hQ2 : ∀ (p : Addr) (G : Hp) (s : Str), pb = some s → Same H G → G p = some (.tup [.non, .str (Str.ofString "badrule " ++ s)]) → H p = none → Q (.ref p) G)
    {tl' : XK → Hp → VK → Prop} (ht : ∀ (E : XK) (Q' : VK), (pb = none → ∀ v G, Same H G → Gd v G → Q' v G) → partOut C pb H E → tl' E H Q') :
    TTwhy K (whyL C1 C C3 C4 C5 C6 C7 C8) tl' H Q := by
  refine ⟨fun cls dd G => cls = .ref C ∧ ∃ (d : Addr) (s : Str), dd = some d ∧ pb = some s ∧ Same H G ∧ G d = some (.xd [("part", .str s)]), fun v G => pb = none ∧ Same H G ∧ Gd v G, ?_, ?_, ?_⟩
  · rintro f cls dd G ⟨rfl, d, s, rfl, hs, sm, hd⟩
    refine ⟨false, ne, (fun z => nomatch z), fun _ => ⟨true, me, fun _ a na => ?_, fun z => nomatch z⟩⟩
    refine ⟨.ref a, rfl, rfl, rfl, d, [("part", .str s)], .str s, rfl, hd, rfl, _, _, rfl, rfl, ?_, ?_⟩
    · have := hpb s hs
      rw [len_tl s]
      exact Nat.le_trans (Nat.add_le_add (by decide : _ ≤ 40) this) (by decide)
    refine ⟨.non, rfl, _, rfl, by show 2 ≤ sizeLine; decide, fun p np => ?_⟩
    exact hQ2 p _ s hs (sm.trans (same_new np)) upd_same (sm.free np)
  · rintro v G ⟨hn, sm, gd⟩ p np
    exact hQ1 p _ G v hn sm (same_new np) upd_same (sm.free np) gd
  · exact ht _ _ (fun hn v G sm gd => ⟨hn, sm, gd⟩) (fun s hs d G sm nd hd => ⟨rfl, d, s, rfl, hs, sm, hd⟩)
theorem part_len {xs : List Str} {lo : Int} {hi wd : Option Int} {s : Str} (h : partBad xs lo hi wd = some s) : (tl s).length ≤ 10 := by
  unfold partBad at h
  split at h
  · split at h
    · split at h
      · split at h
        · cases h
        · rw [← Option.some.inj h]; decide
      · rw [← Option.some.inj h]; decide
    · rw [← Option.some.inj h]; decide
  · rw [← Option.some.inj h]; decide
theorem badrule_ne (s : Str) : V.str (Str.ofString "badrule " ++ s) ≠ V.str "" := fun z => by
  have e := congrArg (fun y : Str => (tl y).length) (V.str.inj z)
  have e2 : (tl (Str.ofString "badrule " ++ s)).length = 0 := e
  rw [tl_append, List.length_append] at e2
  have e3 : (tl (Str.ofString "badrule ")).length = 8 := rfl
  omega
end
end K05

set_option Elab.async false
set_option linter.all false
set_option maxRecDepth 100000
set_option maxHeartbeats 4000000
namespace K05
open PySem PySem.Spec PyProof.Rows L2 Pw TL
section
variable {P : Program} {w : World} {K : PySem.W.Frag} {mg : Str → Option Value} {base : Heap}
/-! _law_texts -/
abbrev sTX : Stmt := topS 45
abbrev nTX : List Str := ["_law_many", "_law_found", "_law_turn", "_law_longer", "_law_text"]
theorem scTX : FnScope nTX ["_law_many"] (defScope sTX) := ⟨rfl, rfl, rfl, by decide +kernel, rfl, by decide +kernel, by decide +kernel⟩
def Rows (n : Nat) (xs : List Str) : Prop := ∀ x ∈ xs, Pw.Pure (tl x) ∧ (tl x).length = n
def spTX : Sp := fun vs H Q _ => ∃ n : Nat, vs = [.int (n : Nat)] ∧ n ≤ 7 ∧ ∀ (l : Addr) (xs : List Str) H', Same H H' → H l = none → H' l = some (.lst (xs.map V.str)) → Rows n xs → Q (.ref l) H'
theorem pure_snoc {x : Str} {c : Str} (h : Pw.Pure (tl x)) (hc : Pw.Pure (tl c)) : Pw.Pure (tl (x ++ c)) := by
  rw [tl_append]
  exact fun y hy => (List.mem_append.mp hy).elim (h y) (hc y)
theorem ok_tx {f : Addr} {fd : FuncData} {k : Nat} (F : Fun K "_law_texts" "_law_texts" sTX f fd) (B : BN mg) : FnOk P w K mg base CX0 (k + 1) f fd ["_law_many"] spTX := by
  refine F.ok scTX (fun vs H Q E h => ?_) (fun cdv A outer s H vs Q E hr h => ?_)
  · obtain ⟨n, rfl, _⟩ := h
    rfl
  · obtain ⟨n, rfl, h7, q⟩ := h
    refine ⟨_, pss_cons (ps_set (i := 1) scTX.nd rfl (.inl rfl) (pe_lst (pa_cons pe_str pa_nil)))
      (pss_cons (ps_for PassesOwn.never rfl (pi_range1 rfl B.rng (pa_cons (pv 0) pa_nil)) (pg_name (i := 2) scTX.nd rfl (.inl rfl))
        (pss_cons (ps_set (i := 3) scTX.nd rfl (.inl rfl) (pe_lst pa_nil))
        (pss_cons (ps_for PassesOwn.never rfl (pi_list (pv 1)) (pg_name (i := 4) scTX.nd rfl (.inl rfl))
          (pss_one (ps_expr (pe_bm PySem.F.plainAttrs_list PySem.F.slot_list_extend PySem.F.type_list_extend mt_extend (pv 3) (pa_cons (pe_lst (pa_cons (pe_op op_add_str (pv 4) pe_str) (pa_cons (pe_op op_add_str (pv 4) pe_str) pa_nil))) pa_nil)))))
        (pss_one (ps_set (i := 1) scTX.nd rfl (.inl rfl) (pv 3))))))
      (pss_one (ps_ret (pv 1)))), ?_⟩
    refine ⟨by show 1 ≤ sizeLine; decide, fun l0 n0 => ⟨_, rfl, (n : Int), rfl, by omega, by omega, ?_⟩⟩
    refine for_range (lo := 0) (n := n) (fun i σ H1 => ∃ (l : Addr) (xs : List Str) (y2 y3 y4 : Option V), σ = [some (.int (n : Nat)), some (.ref l), y2, y3, y4] ∧ Same H H1 ∧ H l = none ∧ H1 l = some (.lst (xs.map V.str)) ∧ Rows i xs ∧ xs.length = 2 ^ i)
      ⟨l0, [Str.ofString ""], none, none, none, rfl, same_new n0, n0, upd_same, ?_, rfl⟩ (fun i σ H1 hi1 h => ?_) (fun σ H1 h => ?_)
    · intro x hx
      rw [List.mem_singleton.mp hx]
      exact ⟨(fun y hy => nomatch hy), rfl⟩
    · obtain ⟨l, xs, y2, y3, y4, rfl, s1, nl, hl, hx, hlen⟩ := h
      have p7 : xs.length ≤ 64 := by
        rw [hlen]
        have : i ≤ 6 := by omega
        exact Nat.le_trans (Nat.pow_le_pow_right (by decide) this) (by decide)
      refine ⟨by show 0 ≤ sizeLine; decide, fun m nm => ⟨_, rfl, l, rfl, ⟨_, SqL.of (same_new nm _ _ hl)⟩, ?_⟩⟩
      have nmH : H m = none := s1.free nm
      refine for_list (K := K) (a := l) (xs := xs.map V.str) (fun j σ H2 => ∃ (zs : List Str) (y4 : Option V), σ = [some (.int (n : Nat)), some (.ref l), some (.int (0 + (i : Int))), some (.ref m), y4] ∧ Same H H2 ∧ H2 l = some (.lst (xs.map V.str)) ∧ H2 m = some (.lst (zs.map V.str)) ∧ Rows (i + 1) zs ∧ zs.length = 2 * j)
        ⟨[], y4, rfl, s1.trans (same_new nm), same_new nm _ _ hl, upd_same, (fun x hx => nomatch hx), rfl⟩ (fun j σ H2 _ h => ?_) (fun j v σ H2 hv h => ?_) (fun σ H2 h => ?_)
      · obtain ⟨zs, y4, rfl, s2, h2, _⟩ := h
        exact SqL.of h2
      · obtain ⟨zs, y4, rfl, s2, h2, h3, hz, hzl⟩ := h
        rw [List.getElem?_map] at hv
        cases hg : xs[j]? with
        | none =>
          rw [hg] at hv
          cases hv
        | some x =>
          rw [hg] at hv
          obtain rfl : V.str x = v := Option.some.inj hv
          have hj := (List.getElem?_eq_some_iff.mp hg).1
          obtain ⟨px, lx⟩ := hx x (List.mem_of_getElem? hg)
          have sz : x.length + 1 ≤ sizeLine := by
            rw [len_tl, lx]
            exact Nat.le_trans (by omega : i + 1 ≤ 10) (by decide)
          refine ⟨.ref m, rfl, .inl ⟨rfl, _, SqL.of h3⟩, _, rfl, _, _, rfl, rfl, sz, _, rfl, _, _, rfl, rfl, sz, by show 2 ≤ sizeLine; decide, fun b nb => ?_⟩
          have em : m ≠ b := ne_of_none h3 nb
          refine ⟨m, b, _, _, rfl, rfl, by rw [upd_ne em]; exact h3, upd_same, ?_, ?_⟩
          · rw [List.length_map, hzl]
            exact Nat.le_trans (by show 2 * j + 2 ≤ 1000; omega) (by decide)
          have el : l ≠ m := fun z => by rw [z, s1.free nm |> fun _ => nm] at hl; cases hl
          refine ⟨zs ++ [x ++ Str.ofString "0", x ++ Str.ofString "1"], _, rfl, same_put (s2.trans (same_new nb)) nmH, ?_, ?_, ?_, ?_⟩
          · rw [upd_ne el]
            exact same_new nb _ _ h2
          · rw [upd_same, List.map_append]
            rfl
          · intro y hy
            rcases List.mem_append.mp hy with z | z
            · exact hz y z
            · rcases List.mem_cons.mp z with rfl | z
              · refine ⟨pure_snoc px (fun c hc => .inl (List.mem_singleton.mp hc)), ?_⟩
                rw [tl_append, List.length_append, lx]
                rfl
              · rw [List.mem_singleton.mp z]
                refine ⟨pure_snoc px (fun c hc => .inr (List.mem_singleton.mp hc)), ?_⟩
                rw [tl_append, List.length_append, lx]
                rfl
          · rw [List.length_append, hzl]
            show 2 * j + 2 = 2 * (j + 1)
            omega
      · obtain ⟨zs, y4, rfl, s2, h2, h3, hz, hzl⟩ := h
        refine ⟨_, rfl, m, zs, _, _, _, rfl, s2, nmH, h3, hz, ?_⟩
        rw [hzl, List.length_map, hlen, Nat.pow_succ]
        omega
    · obtain ⟨l, xs, y2, y3, y4, rfl, s1, nl, hl, hx, hlen⟩ := h
      exact ⟨_, rfl, q l xs H1 s1 nl hl hx⟩
/-! _law_clean -/
abbrev sCL : Stmt := topS 58
theorem scCL : FnScope ["_law_r", "_law_one"] ["_law_r"] (defScope sCL) := ⟨rfl, rfl, rfl, by decide +kernel, rfl, by decide +kernel, by decide +kernel⟩
def un99 (i : Int) : Option Int := if i = 99 then none else some i
def spCL : Sp := fun vs H Q _ => ∃ (T t : Addr) (lo h wd : Int), vs = [.ref T] ∧ H T = some (.tup [.ref t, .int lo, .int h, .int wd]) ∧ ∀ (S : Addr) H', Same H H' → H' S = some (.tup [.ref t, .int lo, vI (un99 h), vI (un99 wd)]) → Q (.ref S) H'
theorem ok_cl {f : Addr} {fd : FuncData} {k : Nat} (F : Fun K "_law_clean" "_law_clean" sCL f fd) (B : BN mg) : FnOk P w K mg base CX0 (k + 1) f fd ["_law_r"] spCL := by
  refine F.ok scCL (fun vs H Q E h => ?_) (fun cdv A outer s H vs Q E hr h => ?_)
  · obtain ⟨T, t, lo, h, wd, rfl, _⟩ := h
    rfl
  · obtain ⟨T, t, lo, hh, wd, rfl, hT, q⟩ := h
    refine ⟨_, pss_one (ps_ret (pe_op op_catA (pe_slice sl_tupA (pv 0) po_none (po_some pe_int)) (pe_callTy call_tuple_of (by rfl) B.tup (by decide +kernel) (pa_cons (pe_lc (own := [("_law_one", 1)]) (g := gName 1) (tt := tYes) rfl scCL.nd (pi_tup (pe_slice sl_tupA (pv 0) (po_some pe_int) po_none))
      (blkOk_by (N := ["_law_r", "_law_one"]) (sc := defScope sCL) (by decide +kernel)) (fun _ _ _ _ _ => pg_name (i := 1) scCL.nd rfl (Or.inl rfl)) (fun _ _ _ _ _ => pts_nil)
      (fun _ _ _ _ _ => pe_ifExp (pt_cmpR op_eq (pv 1) pe_int (nomark _)) pe_non (pv 1))) pa_nil)))), ?_⟩
    refine ⟨.ref T, rfl, 2, rfl, T, _, rfl, .inl (.inl hT), (fun z => absurd z.2 (by show ¬ (HT.sIx 4 4 (some 2) = 4); decide)), fun _ a na => ?_⟩
    have s1 : Same H (upd H a (.tup (cutV [.ref t, .int lo, .int hh, .int wd] none (some 2)))) := same_new na
    refine ⟨.ref T, rfl, 2, rfl, T, _, rfl, .inl (.inl (s1 _ _ hT)), (fun z => absurd z.1 (by show ¬ (HT.sIx 4 0 (some 2) = 0); decide)), fun _ b nb => ?_⟩
    have ec : cutV [V.ref t, .int lo, .int hh, .int wd] (some 2) none = [.int hh, .int wd] := rfl
    have ea : cutV [V.ref t, .int lo, .int hh, .int wd] none (some 2) = [.ref t, .int lo] := rfl
    rw [ec]
    rw [ea] at nb s1 ⊢
    have s2 := s1.trans (same_new (o := .tup [.int hh, .int wd]) nb)
    have hb : upd (upd H a (.tup [.ref t, .int lo])) b (.tup [.int hh, .int wd]) b = some (.tup [.int hh, .int wd]) := upd_same
    have hA : upd (upd H a (.tup [.ref t, .int lo])) b (.tup [.int hh, .int wd]) a = some (.tup [.ref t, .int lo]) := same_new nb _ _ upd_same
    refine ⟨b, rfl, ⟨_, .inl (.inl hb)⟩, fun D nD => ?_⟩
    generalize upd (upd H a (.tup [.ref t, .int lo])) b (.tup [.int hh, .int wd]) = H2 at s2 hb hA nD ⊢
    refine lc_tup (K := K) (a := b) (xs := [.int hh, .int wd]) (fun i H3 => Same H2 H3 ∧ H3 D = some (.lst (([un99 hh, un99 wd].take i).map vI)))
      ⟨same_new nD, upd_same⟩ (fun i H3 _ h => .inl (.inl (h.1 _ _ hb))) (fun i v H3 hv h => ?_) (fun H3 h => ?_)
    · obtain ⟨s3, h3⟩ := h
      obtain ⟨j, rfl, eg⟩ : ∃ j : Int, v = .int j ∧ [un99 hh, un99 wd][i]? = some (un99 j) := match i, hv with
        | 0, hv => ⟨hh, (Option.some.inj hv).symm, rfl⟩
        | 1, hv => ⟨wd, (Option.some.inj hv).symm, rfl⟩
        | _ + 2, hv => by simp at hv
      have fin : ∀ o : Option Int, un99 j = o → ∃ acc, H3 D = some (.lst acc) ∧ acc.length < sizeLine ∧ (Same H2 (upd H3 D (.lst (acc ++ [vI o]))) ∧ upd H3 D (.lst (acc ++ [vI o])) D = some (.lst (([un99 hh, un99 wd].take (i + 1)).map vI))) := fun o eo => by
        refine ⟨_, h3, ?_, same_put s3 nD, ?_⟩
        · rw [List.length_map, List.length_take]
          exact Nat.lt_of_le_of_lt (Nat.min_le_right _ _) (small1000 (by show 2 ≤ 1000; decide))
        · rw [upd_same, List.take_add_one, eg, eo, List.map_append]
          rfl
      refine ⟨rfl, _, rfl, rfl, _, rfl, ?_⟩
      by_cases e : j = 99
      · rw [e, decide_eq_true rfl]
        exact iteT (fin none (by unfold un99; rw [if_pos e]))
      · rw [decide_eq_false (fun z => e (V.int.inj z))]
        exact iteF ⟨_, rfl, fin (some j) (by unfold un99; rw [if_neg e])⟩
    · obtain ⟨s3, h3⟩ := h
      refine ⟨D, _, rfl, .inl ⟨SqL.of h3, fun c nc => ?_⟩⟩
      have s4 := s3.trans (same_new (o := .tup (([un99 hh, un99 wd].take 2).map vI)) nc)
      refine ⟨a, c, _, _, rfl, rfl, .inl (.inl (s4 _ _ hA)), .inl (.inl upd_same), by show 2 + 2 ≤ sizeLine; decide, (fun z => nomatch z), (fun _ z => nomatch z), fun _ _ S nS => ?_⟩
      exact q S _ (s2.trans (s4.trans (same_new nS))) upd_same
/-! _law_held -/
abbrev sHE : Stmt := topS 59
theorem scHE : FnScope ["_law_found", "_law_due", "_law_word_here"] ["_law_found", "_law_due"] (defScope sHE) := ⟨rfl, rfl, rfl, by decide +kernel, rfl, by decide +kernel, by decide +kernel⟩
/-- what why tells of a rule made, or refused -/
def Told (H : Hp) (R : Addr) (v : V) (xs : List Str) (lo : Int) (hi wd : Option Int) : Prop := partBad xs lo hi wd = none → ∃ r p ys, v = .ref r ∧ RuleAt H R r p ys lo hi wd ∧ ys.Perm xs ∧ sortedS ys = true
def spHE (R : Addr) : Sp := fun vs H Q _ => ∃ (F T t : Addr) (v : V) (xs : List Str) (lo : Int) (hi wd : Option Int), vs = [.ref F, .ref T] ∧ H F = some (.tup [v, .str (ruleWord xs lo hi wd)]) ∧ Parts H T t xs lo hi wd ∧ xs.length ≤ 60 ∧ Fine xs ∧ Told H R v xs lo hi wd ∧ ∀ H', Same H H' → Q (.bl true) H'
theorem ok_he {f R fU fS : Addr} {fd fdU fdS : FuncData} (F : Fun K "_law_held" "_law_held" sHE f fd)
    (GU : FnOk P w K mg base CX0 2 fU fdU ["_law_r"] spRU) (um : mg "_law_rule_word" = some (.ref fU)) (uk : PySem.W.keepIn K (.ref fU) = true) (ub : Binds K fdU ["_law_r"] [])
    (GS : FnOk P w K mg base CX0 5 fS fdS ["_law_made", "_law_r"] (spSR R)) (sm : mg "_law_same_rule" = some (.ref fS)) (sk : PySem.W.keepIn K (.ref fS) = true) (sb : Binds K fdS ["_law_made", "_law_r"] []) :
    FnOk P w K mg base CX0 6 f fd ["_law_found", "_law_due"] (spHE R) := by
  refine F.ok scHE (fun vs H Q E h => ?_) (fun cdv A outer s H vs Q E hr h => ?_)
  · obtain ⟨A, T, t, v, xs, lo, hi, wd, rfl, _⟩ := h
    rfl
  · obtain ⟨D, T, t, v, xs, lo, hi, wd, rfl, hD, hP, h60, hs, hv, q⟩ := h
    refine ⟨_, pss_cons (ps_set (i := 2) scHE.nd rfl (.inl rfl) (pe_call GU (hr.mono (by decide)) rfl um uk ub .nil pass0 (pa_cons (pv 1) pa_nil)))
      (pss_one (ps_ret (pe_and (pe_cmpR op_eq (pe_ix ix_tup (pv 0) pe_int (fun _ _ => rfl)) (pv 2) (nomark _)) (pe_one (pe_or (pe_cmpR op_ne (pv 2) pe_str (nomark _)) (pe_one (pe_call GS hr rfl sm sk sb .nil pass0 (pa_cons (pe_ix ix_tup (pv 0) pe_int (fun _ _ => rfl)) (pa_cons (pv 1) pa_nil))))))))), ?_⟩
    refine ⟨.ref T, rfl, T, t, xs, lo, hi, wd, rfl, hP, h60, hs, fun H1 s1 => ?_⟩
    have sqD : SqT K H1 D [v, .str (ruleWord xs lo hi wd)] := .inl (.inl (s1 _ _ hD))
    refine ⟨.ref D, rfl, D, _, 1, _, rfl, rfl, sqD, rfl, _, rfl, rfl, _, rfl, ?_⟩
    rw [decide_eq_true rfl]
    refine iteT ⟨_, rfl, rfl, _, rfl, ?_⟩
    cases hb : partBad xs lo hi wd with
    | some b =>
      have er : ruleWord xs lo hi wd = Str.ofString "badrule " ++ b := by
        unfold ruleWord
        rw [hb]
      rw [decide_eq_false (by rw [er]; exact badrule_ne b)]
      exact iteT (q H1 s1)
    | none =>
      have er : ruleWord xs lo hi wd = Str.ofString "" := by
        unfold ruleWord
        rw [hb]
      rw [decide_eq_true (by rw [er])]
      obtain ⟨r, p, ys, rfl, hR, hp, hsr⟩ := hv hb
      exact iteF ⟨.ref D, rfl, D, _, 0, _, rfl, rfl, sqD, rfl, .ref T, rfl, r, p, T, t, ys, xs, lo, hi, wd, rfl, hR.same s1, hp, hsr, hP.same s1, h60, fun H2 s2 => q H2 (s1.trans s2)⟩
end
end K05

set_option Elab.async false
set_option linter.all false
set_option maxRecDepth 100000
set_option maxHeartbeats 4000000
namespace K05
open PySem PySem.Spec PyProof.Rows L2 Pw TL
section
variable {P : Program} {w : World} {K : PySem.W.Frag} {mg : Str → Option Value} {base : Heap}
/-! _law_joined -/
abbrev sJN : Stmt := topS 57
abbrev nJN : List Str := ["_law_r", "_law_second", "_law_bars", "_law_uppers", "_law_wides", "_law_one"]
theorem scJN : FnScope nJN ["_law_r", "_law_second"] (defScope sJN) := ⟨rfl, rfl, rfl, by decide +kernel, rfl, by decide +kernel, by decide +kernel⟩
def m99 (o : Option Int) : Int := o.getD 99
def Lt99 (o : Option Int) : Prop := ∀ i, o = some i → i < 99
def somes2 (a b : Option Int) : List Int := [a, b].filterMap id
theorem m99_is {a b : Option Int} (ha : Lt99 a) (hb : Lt99 b) {m : Int} (h1 : m ∈ somes2 a b ++ [99]) (h2 : ∀ y ∈ somes2 a b ++ [99], m ≤ y) : m = m99 (nar a b) := by
  cases a with
  | none =>
    cases b with
    | none =>
      rcases List.mem_cons.mp h1 with h | h
      · exact h
      · cases h
    | some j =>
      have := hb j rfl
      have e2 := h2 j (List.mem_cons_self ..)
      rcases List.mem_cons.mp h1 with h | h
      · exact h
      · rcases List.mem_cons.mp h with h | h
        · omega
        · cases h
  | some i =>
    have := ha i rfl
    cases b with
    | none =>
      have e2 := h2 i (List.mem_cons_self ..)
      rcases List.mem_cons.mp h1 with h | h
      · exact h
      · rcases List.mem_cons.mp h with h | h
        · omega
        · cases h
    | some j =>
      have := hb j rfl
      have e2 := h2 i (List.mem_cons_self ..)
      have e3 := h2 j (List.mem_cons_of_mem _ (List.mem_cons_self ..))
      show m = min i j
      rcases List.mem_cons.mp h1 with h | h
      · omega
      · rcases List.mem_cons.mp h with h | h
        · omega
        · rcases List.mem_cons.mp h with h | h
          · omega
          · cases h
def spJN : Sp := fun vs H Q _ => ∃ (T t : Addr) (xs : List Str) (lo : Int) (hi wd : Option Int) (T2 t2 : Addr) (ys : List Str) (lo2 : Int) (hi2 wd2 : Option Int), vs = [.ref T, .ref T2] ∧ Parts H T t xs lo hi wd ∧ Parts H T2 t2 ys lo2 hi2 wd2 ∧ xs.length ≤ 6 ∧ ys.length ≤ 6 ∧ Lt99 hi ∧ Lt99 wd ∧ Lt99 hi2 ∧ Lt99 wd2 ∧
  ∀ (S u : Addr) (zs : List Str) H', Same H H' → H' S = some (.tup [.ref u, .int (max lo lo2), .int (m99 (nar hi hi2)), .int (m99 (nar wd wd2))]) → H' u = some (.tup (zs.map V.str)) → zs.Perm (uniq [] (xs ++ ys)) → sortedS zs = true → Q (.ref S) H'
/-- the comprehension of those that are not None -/
theorem lc_some {g : TG} {te : TE} {tt : TT} {vs : List Nat} {σ : L2.St} {H : Hp} {b D : Addr} {Qd : Hp → Prop} {o o2 : Option Int} (hb : H b = some (.tup [vI o, vI o2])) (nD : H D = none)
    (hs : ∀ (x : Option Int) (H3 : Hp) (Z Y : Hp → Prop), (x = none → Y H3) → (∀ i, x = some i → ∃ acc, H3 D = some (.lst acc) ∧ acc.length < sizeLine ∧ Z (upd H3 D (.lst (acc ++ [.int i])))) →
      g (vI x) (wipe σ vs) H3 fun σ2 H4 => wipe σ2 vs = wipe σ vs ∧ tt σ2 H4 fun c H5 => if c = true then te σ2 H5 fun y H6 => ∃ acc, H6 D = some (.lst acc) ∧ acc.length < sizeLine ∧ Z (upd H6 D (.lst (acc ++ [y]))) else Y H5)
    (hd : ∀ H', Same H H' → H' D = some (.lst ((somes2 o o2).map V.int)) → Qd H') :
    ∃ W : Nat → Nat → Hp → Prop, (∃ m, W 0 m (upd H D (.lst []))) ∧ ∀ i m H, W i m H →
      ((Itt K b).stop i H ∧ Qd H) ∨ ((Itt K b).go i H ∧ ∃ Nx : Hp → Prop, (∀ H', Nx H' → ∃ m', m' < m ∧ W (i + 1) m' H') ∧ ∀ x H', (Itt K b).yld i H x H' → g x (wipe σ vs) H' fun σ2 H2 => wipe σ2 vs = wipe σ vs ∧ tt σ2 H2 fun b H3 =>
        if b = true then te σ2 H3 fun y H4 => ∃ acc, H4 D = some (.lst acc) ∧ acc.length < sizeLine ∧ Nx (upd H4 D (.lst (acc ++ [y]))) else Nx H3) := by
  refine lc_tup (K := K) (a := b) (xs := [vI o, vI o2]) (fun i H3 => Same H H3 ∧ H3 D = some (.lst ((([o, o2].take i).filterMap id).map V.int)))
      ⟨same_new nD, upd_same⟩ (fun i H3 _ h => .inl (.inl (h.1 _ _ hb))) (fun i v H3 hv h => ?_) (fun H3 h => hd H3 h.1 h.2)
  obtain ⟨s3, h3⟩ := h
  obtain ⟨x, rfl, ex⟩ : ∃ x : Option Int, v = vI x ∧ [o, o2][i]? = some x := match i, hv with
    | 0, hv => ⟨o, (Option.some.inj hv).symm, rfl⟩
    | 1, hv => ⟨o2, (Option.some.inj hv).symm, rfl⟩
    | _ + 2, hv => by simp at hv
  refine hs x H3 (fun H' => Same H H' ∧ H' D = some (.lst ((([o, o2].take (i + 1)).filterMap id).map V.int))) (fun H' => Same H H' ∧ H' D = some (.lst ((([o, o2].take (i + 1)).filterMap id).map V.int))) (fun e => ⟨s3, ?_⟩) (fun j e => ⟨_, h3, ?_, same_put s3 nD, ?_⟩)
  · rw [List.take_add_one, ex, e, List.filterMap_append]
    show H3 D = some (.lst ((List.filterMap id (List.take i [o, o2]) ++ []).map V.int))
    rw [List.append_nil]
    exact h3
  · rw [List.length_map]
    refine Nat.lt_of_le_of_lt (Nat.le_trans (List.length_filterMap_le _ _) (Nat.le_trans (List.length_take_le' _ _) (Nat.le_refl _))) (small1000 (by show 2 ≤ 1000; decide))
  · rw [upd_same, List.take_add_one, ex, e, List.filterMap_append, List.map_append]
    rfl
theorem ok_jn {f : Addr} {fd : FuncData} {k : Nat} (F : Fun K "_law_joined" "_law_joined" sJN f fd) (B : BN mg) (mso : mg "sorted" = none) (mse : mg "set" = none) (mmi : mg "min" = none) : FnOk P w K mg base CX0 (k + 1) f fd ["_law_r", "_law_second"] spJN := by
  refine F.ok scJN (fun vs H Q E h => ?_) (fun cdv A outer s H vs Q E hr h => ?_)
  · obtain ⟨T, t, xs, lo, hi, wd, T2, t2, ys, lo2, hi2, wd2, rfl, _⟩ := h
    rfl
  · obtain ⟨T, t, xs, lo, hi, wd, T2, t2, ys, lo2, hi2, wd2, rfl, hP, hP2, h6, h62, a1, a2, a3, a4, q⟩ := h
    refine ⟨_, pss_cons (ps_set (i := 2) scJN.nd rfl (.inl rfl) (pe_sortD rfl (by rfl) mso (by rfl) mse (pe_op op_cat (pe_callTy call_list_of (by rfl) B.lst (by decide +kernel) (pa_cons (pe_ix ix_tup (pv 0) pe_int (fun _ _ => rfl)) pa_nil)) (pe_callTy call_list_of (by rfl) B.lst (by decide +kernel) (pa_cons (pe_ix ix_tup (pv 1) pe_int (fun _ _ => rfl)) pa_nil)))))
      (pss_cons (ps_setLc (i := 3) (own := [("_law_one", 5)]) (g := gName 5) rfl scJN.nd rfl rfl (sw_true rfl rfl rfl (by decide +kernel)) (pi_tup (pe_tup (pa_cons (pe_ix ix_tup (pv 0) pe_int (fun _ _ => rfl)) (pa_cons (pe_ix ix_tup (pv 1) pe_int (fun _ _ => rfl)) pa_nil))))
        (blkOk_by (N := nJN) (sc := defScope sJN) (by decide +kernel)) (fun _ _ _ _ _ => pg_name (i := 5) scJN.nd rfl (Or.inl rfl)) (fun _ _ _ _ _ => pts_one (pt_cmpR op_notN (pv 5) pe_non (nomark _))) (fun _ _ _ _ _ => pv 5))
      (pss_cons (ps_setLc (i := 4) (own := [("_law_one", 5)]) (g := gName 5) rfl scJN.nd rfl rfl (sw_true rfl rfl rfl (by decide +kernel)) (pi_tup (pe_tup (pa_cons (pe_ix ix_tup (pv 0) pe_int (fun _ _ => rfl)) (pa_cons (pe_ix ix_tup (pv 1) pe_int (fun _ _ => rfl)) pa_nil))))
        (blkOk_by (N := nJN) (sc := defScope sJN) (by decide +kernel)) (fun _ _ _ _ _ => pg_name (i := 5) scJN.nd rfl (Or.inl rfl)) (fun _ _ _ _ _ => pts_one (pt_cmpR op_notN (pv 5) pe_non (nomark _))) (fun _ _ _ _ _ => pv 5))
      (pss_one (ps_ret (pe_tup (pa_cons (pe_callTy call_tuple_of (by rfl) B.tup (by decide +kernel) (pa_cons (pv 2) pa_nil)) (pa_cons (pe_callB (call_max2 rfl) (by rfl) B.max (by decide +kernel) (pa_cons (pe_ix ix_tup (pv 0) pe_int (fun _ _ => rfl)) (pa_cons (pe_ix ix_tup (pv 1) pe_int (fun _ _ => rfl)) pa_nil)))
        (pa_cons (pe_callB (cr_min rfl) (by rfl) mmi (by decide +kernel) (pa_cons (pe_op op_cat (pv 3) (pe_lst (pa_cons pe_int pa_nil))) pa_nil)) (pa_cons (pe_callB (cr_min rfl) (by rfl) mmi (by decide +kernel) (pa_cons (pe_op op_cat (pv 4) (pe_lst (pa_cons pe_int pa_nil))) pa_nil)) pa_nil))))))))), ?_⟩
    have sqT : SqT K H T [.ref t, .int lo, vI hi, vI wd] := .inl (.inl hP.1)
    refine ⟨.ref T, rfl, T, _, 0, _, rfl, rfl, sqT, rfl, t, _, rfl, .inr (.inl (.inl hP.2)), fun la na => ?_⟩
    have s1 : Same H (upd H la (.lst (xs.map V.str))) := same_new na
    have hP2a := hP2.same s1
    refine ⟨.ref T2, rfl, T2, _, 0, _, rfl, rfl, .inl (.inl hP2a.1), rfl, t2, _, rfl, .inr (.inl (.inl hP2a.2)), fun lb nb => ?_⟩
    have hla := same_new (o := .lst (ys.map V.str)) nb _ _ (upd_same (H := H) (a := la) (o := .lst (xs.map V.str)))
    refine ⟨la, lb, _, _, rfl, rfl, hla, upd_same, ?_, fun lc nc => ?_⟩
    · rw [List.length_map, List.length_map]
      exact Nat.le_of_lt (small1000 (by omega))
    have s3 := (s1.trans (same_new (o := .lst (ys.map V.str)) nb)).trans (same_new (o := .lst (xs.map V.str ++ ys.map V.str)) nc)
    refine ⟨lc, xs ++ ys, rfl, by rw [List.map_append]; exact SqL.of upd_same, by rw [List.length_append]; omega, fun zs B zp zsrt nB => ?_⟩
    have s4 := s3.trans (same_new (o := .lst (zs.map V.str)) nB)
    generalize hH4 : upd _ B (.lst (zs.map V.str)) = H4 at s4 ⊢
    have hB : H4 B = some (.lst (zs.map V.str)) := by rw [← hH4, upd_same]
    have gP := hP.same s4
    have gP2 := hP2.same s4
    refine ⟨.ref T, rfl, T, _, 2, _, rfl, rfl, .inl (.inl gP.1), rfl, .ref T2, rfl, T2, _, 2, _, rfl, rfl, .inl (.inl gP2.1), rfl, by show 2 ≤ sizeLine; decide, fun b nb2 => ⟨b, rfl, ⟨_, .inl (.inl upd_same)⟩, fun D nD => ?_⟩⟩
    refine lc_some (o := hi) (o2 := hi2) upd_same nD (fun x H5 Z Y hn hs => ?_) (fun H5 s5 hD => ?_)
    · cases x with
      | none => exact ⟨rfl, .non, rfl, rfl, _, rfl, iteF (hn rfl)⟩
      | some i => exact ⟨rfl, .int i, rfl, rfl, _, rfl, iteT ⟨_, rfl, hs i rfl⟩⟩
    have s45 := (same_new (o := .tup [vI hi, vI hi2]) nb2).trans s5
    have s6 := s4.trans s45
    have hB6 := s45 _ _ hB
    have iP := hP.same s6
    have iP2 := hP2.same s6
    refine ⟨.ref T, rfl, T, _, 3, _, rfl, rfl, .inl (.inl iP.1), rfl, .ref T2, rfl, T2, _, 3, _, rfl, rfl, .inl (.inl iP2.1), rfl, by show 2 ≤ sizeLine; decide, fun b2 nb3 => ⟨b2, rfl, ⟨_, .inl (.inl upd_same)⟩, fun D2 nD2 => ?_⟩⟩
    refine lc_some (o := wd) (o2 := wd2) upd_same nD2 (fun x H7 Z Y hn hs => ?_) (fun H7 s7 hD2 => ?_)
    · cases x with
      | none => exact ⟨rfl, .non, rfl, rfl, _, rfl, iteF (hn rfl)⟩
      | some i => exact ⟨rfl, .int i, rfl, rfl, _, rfl, iteT ⟨_, rfl, hs i rfl⟩⟩
    have s57 := (same_new (o := .tup [vI wd, vI wd2]) nb3).trans s7
    have s8 := s6.trans s57
    have hB8 := s57 _ _ hB6
    have hD8 := s57 _ _ hD
    refine ⟨.ref B, rfl, B, _, rfl, .inl ⟨SqL.of hB8, fun u nu => ?_⟩⟩
    have t1 : Same H7 (upd H7 u (.tup (zs.map V.str))) := same_new nu
    have jP := (hP.same s8).same t1
    have jP2 := (hP2.same s8).same t1
    refine ⟨.ref T, rfl, T, _, 1, _, rfl, rfl, .inl (.inl jP.1), rfl, .ref T2, rfl, T2, _, 1, _, rfl, rfl, .inl (.inl jP2.1), rfl, lo, lo2, rfl, ?_⟩
    rw [max_if]
    refine ⟨.ref D, rfl, by show 1 ≤ sizeLine; decide, fun e1 ne1 => ?_⟩
    have t2' := t1.trans (same_new (o := .lst [.int 99]) ne1)
    refine ⟨D, e1, _, _, rfl, rfl, t2' _ _ hD8, upd_same, ?_, fun e2 ne2 => ?_⟩
    · rw [List.length_map]
      refine Nat.le_trans (Nat.add_le_add_right (List.length_filterMap_le _ _) _) ?_
      show 2 + 1 ≤ sizeLine
      decide
    have t3 := t2'.trans (same_new (o := .lst ((somes2 hi hi2).map V.int ++ [.int 99])) ne2)
    refine ⟨e2, somes2 hi hi2 ++ [99], rfl, by rw [List.map_append]; exact SqL.of upd_same, by rw [List.length_append]; show 0 < _ + 1; omega, fun m m1 m2 => ?_⟩
    obtain rfl := m99_is a1 a3 m1 m2
    refine ⟨.ref D2, rfl, by show 1 ≤ sizeLine; decide, fun e3 ne3 => ?_⟩
    have t4 := t3.trans (same_new (o := .lst [.int 99]) ne3)
    refine ⟨D2, e3, _, _, rfl, rfl, t4 _ _ hD2, upd_same, ?_, fun e4 ne4 => ?_⟩
    · rw [List.length_map]
      refine Nat.le_trans (Nat.add_le_add_right (List.length_filterMap_le _ _) _) ?_
      show 2 + 1 ≤ sizeLine
      decide
    have t5 := t4.trans (same_new (o := .lst ((somes2 wd wd2).map V.int ++ [.int 99])) ne4)
    refine ⟨e4, somes2 wd wd2 ++ [99], rfl, by rw [List.map_append]; exact SqL.of upd_same, by rw [List.length_append]; show 0 < _ + 1; omega, fun m m1 m2 => ?_⟩
    obtain rfl := m99_is a2 a4 m1 m2
    refine ⟨by show 4 ≤ sizeLine; decide, fun S nS => ?_⟩
    have t6 := t5.trans (same_new (o := .tup [.ref u, .int (max lo lo2), .int (m99 (nar hi hi2)), .int (m99 (nar wd wd2))]) nS)
    refine q S u zs _ (s8.trans t6) upd_same ?_ zp zsrt
    have hu : upd H7 u (.tup (zs.map V.str)) u = some (.tup (zs.map V.str)) := upd_same
    have t7 := ((((same_new (o := .lst [.int 99]) ne1).trans (same_new (o := .lst ((somes2 hi hi2).map V.int ++ [.int 99])) ne2)).trans (same_new (o := .lst [.int 99]) ne3)).trans (same_new (o := .lst ((somes2 wd wd2).map V.int ++ [.int 99])) ne4)).trans (same_new (o := .tup [.ref u, .int (max lo lo2), .int (m99 (nar hi hi2)), .int (m99 (nar wd wd2))]) nS)
    exact t7 _ _ hu
end
end K05

set_option Elab.async false
set_option linter.all false
set_option maxRecDepth 100000
set_option maxHeartbeats 4000000
namespace K05
open PySem PySem.Spec PyProof.Rows L2 Pw TL
section
variable {P : Program} {w : World} {K : PySem.W.Frag} {mg : Str → Option Value} {base : Heap}
open LamX
theorem words_perm {xs ys : List Str} (h : xs.Perm ys) : wordsB xs = wordsB ys := by
  unfold wordsB
  have e1 : decide (cntD xs = xs.length) = decide (cntD ys = ys.length) := by
    have a := cntD_nodup xs
    have b := cntD_nodup ys
    have c : xs.Nodup ↔ ys.Nodup := h.nodup_iff
    by_cases d : ys.Nodup
    · rw [decide_eq_true (a.mpr (c.mpr d)), decide_eq_true (b.mpr d)]
    · rw [decide_eq_false (fun z => d (c.mp (a.mp z))), decide_eq_false (fun z => d (b.mp z))]
  rw [e1, h.length_eq, h.all_eq]
theorem part_perm {xs ys : List Str} (h : xs.Perm ys) (lo : Int) (hi wd : Option Int) : partBad xs lo hi wd = partBad ys lo hi wd := by
  unfold partBad
  rw [words_perm h]
theorem word_perm {xs ys : List Str} (h : xs.Perm ys) (lo : Int) (hi wd : Option Int) : ruleWord xs lo hi wd = ruleWord ys lo hi wd := by
  unfold ruleWord
  rw [part_perm h]
theorem both_perm {xs ys : List Str} (hx : xs.Nodup) (hy : ys.Nodup) : (both xs ys).Perm (uniq [] (xs ++ ys)) := by
  have n1 : (both xs ys).Nodup := by
    unfold both
    rw [List.nodup_append]
    refine ⟨hx, hy.sublist List.filter_sublist, fun a ha b hb e => ?_⟩
    have := (List.mem_filter.mp hb).2
    rw [← e, decide_eq_true ha] at this
    cases this
  refine (List.perm_ext_iff_of_nodup n1 (uniq_nodup _ _ List.nodup_nil)).mpr fun a => ?_
  rw [uniq_mem]
  unfold both
  rw [List.mem_append, List.mem_append, List.mem_filter]
  constructor
  · rintro (h | h)
    · exact .inr (.inl h)
    · exact .inr (.inr h.1)
  · rintro (h | h | h)
    · cases h
    · exact .inl h
    · by_cases e : a ∈ xs
      · exact .inl e
      · exact .inr ⟨h, by rw [decide_eq_false e]; rfl⟩
theorem uniq_swap (xs ys : List Str) : (uniq [] (ys ++ xs)).Perm (uniq [] (xs ++ ys)) := by
  refine (List.perm_ext_iff_of_nodup (uniq_nodup _ _ List.nodup_nil) (uniq_nodup _ _ List.nodup_nil)).mpr fun a => ?_
  rw [uniq_mem, uniq_mem, List.mem_append, List.mem_append, Or.comm (a := a ∈ ys)]
theorem nar_comm (a b : Option Int) : nar a b = nar b a := by
  cases a <;> cases b <;> simp [nar, Int.min_comm]
theorem un_m99 {a b : Option Int} (ha : Lt99 a) (hb : Lt99 b) : un99 (m99 (nar a b)) = nar a b := by
  unfold un99 m99
  cases a with
  | none =>
    cases b with
    | none => rfl
    | some j =>
      have := hb j rfl
      show (if j = 99 then none else some j) = some j
      rw [if_neg (by omega)]
  | some i =>
    have := ha i rfl
    cases b with
    | none =>
      show (if i = 99 then none else some i) = some i
      rw [if_neg (by omega)]
    | some j =>
      have := hb j rfl
      show (if min i j = 99 then none else some (min i j)) = some (min i j)
      rw [if_neg (by omega)]
theorem part_good {xs : List Str} {lo : Int} {hi wd : Option Int} (h : partBad xs lo hi wd = none) : wordsB xs = true ∧ lowB lo = true ∧ highB lo hi = true ∧ spanB wd = true := by
  unfold partBad at h
  split at h
  · split at h
    · split at h
      · split at h
        · rename_i a b c d
          exact ⟨a, b, c, d⟩
        · cases h
      · cases h
    · cases h
  · cases h
theorem part_bnd {xs : List Str} {lo : Int} {hi wd : Option Int} (h : partBad xs lo hi wd = none) : Bnd lo hi := by
  obtain ⟨_, h2, h3, _⟩ := part_good h
  have a := of_decide_eq_true h2
  refine ⟨a.1, a.2, fun g e => ?_, fun g e => ?_⟩
  · subst e
    have := of_decide_eq_true h3
    omega
  · subst e
    have := of_decide_eq_true h3
    omega
theorem part_99 {xs : List Str} {lo : Int} {hi wd : Option Int} (h : partBad xs lo hi wd = none) : Lt99 hi ∧ Lt99 wd := by
  obtain ⟨_, _, h3, h4⟩ := part_good h
  refine ⟨fun g e => ?_, fun g e => ?_⟩
  · subst e
    have := of_decide_eq_true h3
    omega
  · subst e
    have := of_decide_eq_true h4
    omega
theorem part_words {xs : List Str} {lo : Int} {hi wd : Option Int} (h : partBad xs lo hi wd = none) : Words xs := by
  have h1 := (part_good h).1
  unfold wordsB at h1
  rw [Bool.and_eq_true, Bool.and_eq_true] at h1
  refine ⟨of_decide_eq_true h1.1.1, fun y hy => ?_⟩
  have h2 := List.all_eq_true.mp h1.2 y hy
  unfold wordB at h2
  have h3 := of_decide_eq_true (Bool.and_eq_true_iff.mp h2).1
  refine ⟨fun e => ?_, h3.2⟩
  rw [e] at h3
  exact absurd h3.1 (by decide)
theorem hi_nar (l : List Nat) (a b : Option Int) : hiB l (nar a b) = (hiB l a && hiB l b) := by
  cases a with
  | none =>
    show hiB l b = (true && hiB l b)
    rw [Bool.true_and]
  | some i =>
    cases b with
    | none =>
      show hiB l (some i) = (hiB l (some i) && true)
      rw [Bool.and_true]
    | some j =>
      show ((runL 0 l).all fun n => decide ((n : Int) ≤ min i j)) = (((runL 0 l).all fun n => decide ((n : Int) ≤ i)) && ((runL 0 l).all fun n => decide ((n : Int) ≤ j)))
      rw [Bool.eq_iff_iff, Bool.and_eq_true, List.all_eq_true, List.all_eq_true, List.all_eq_true]
      constructor
      · intro h
        refine ⟨fun x hx => ?_, fun x hx => ?_⟩
        · have := of_decide_eq_true (h x hx)
          exact decide_eq_true (by omega)
        · have := of_decide_eq_true (h x hx)
          exact decide_eq_true (by omega)
      · rintro ⟨h1, h2⟩ x hx
        have a := of_decide_eq_true (h1 x hx)
        have b := of_decide_eq_true (h2 x hx)
        exact decide_eq_true (by omega)
theorem wd_nar (l : List Nat) (a b : Option Int) : wdB l (nar a b) = (wdB l a && wdB l b) := by
  cases a with
  | none =>
    show wdB l b = (true && wdB l b)
    rw [Bool.true_and]
  | some i =>
    cases b with
    | none =>
      show wdB l (some i) = (wdB l (some i) && true)
      rw [Bool.and_true]
    | some j =>
      show decide (wid l ≤ min i j) = (decide (wid l ≤ i) && decide (wid l ≤ j))
      rw [Bool.eq_iff_iff, Bool.and_eq_true, decide_eq_true_iff, decide_eq_true_iff, decide_eq_true_iff]
      omega
theorem lo_max (ns : List Nat) (a b : Int) : (ns.all fun n => decide (max a b ≤ (n : Int))) = ((ns.all fun n => decide (a ≤ (n : Int))) && (ns.all fun n => decide (b ≤ (n : Int)))) := by
  rw [Bool.eq_iff_iff, Bool.and_eq_true, List.all_eq_true, List.all_eq_true, List.all_eq_true]
  constructor
  · intro h
    refine ⟨fun x hx => ?_, fun x hx => ?_⟩
    · have := of_decide_eq_true (h x hx)
      exact decide_eq_true (by omega)
    · have := of_decide_eq_true (h x hx)
      exact decide_eq_true (by omega)
  · rintro ⟨h1, h2⟩ x hx
    have a := of_decide_eq_true (h1 x hx)
    have b := of_decide_eq_true (h2 x hx)
    exact decide_eq_true (by omega)
theorem any_uniq (f : Str → Bool) {xs ys zs : List Str} (h : zs.Perm (uniq [] (xs ++ ys))) : (zs.any f) = (xs.any f || ys.any f) := by
  rw [Bool.eq_iff_iff, Bool.or_eq_true, List.any_eq_true, List.any_eq_true, List.any_eq_true]
  have m : ∀ z, z ∈ zs ↔ z ∈ xs ∨ z ∈ ys := fun z => by
    rw [h.mem_iff, uniq_mem, List.mem_append]
    exact ⟨fun q => q.elim (fun z => nomatch z) id, .inr⟩
  constructor
  · rintro ⟨z, hz, e⟩
    exact ((m z).mp hz).imp (fun q => ⟨z, q, e⟩) (fun q => ⟨z, q, e⟩)
  · rintro (⟨z, hz, e⟩ | ⟨z, hz, e⟩)
    · exact ⟨z, (m z).mpr (.inl hz), e⟩
    · exact ⟨z, (m z).mpr (.inr hz), e⟩
/-- lawful by both -/
theorem law_both {xs ys zs : List Str} (h : zs.Perm (uniq [] (xs ++ ys))) (lo lo2 : Int) (hi hi2 wd wd2 : Option Int) (l : List Nat) : lawB zs (max lo lo2) (nar hi hi2) (nar wd wd2) l = (lawB xs lo hi wd l && lawB ys lo2 hi2 wd2 l) := by
  unfold lawB
  rw [any_uniq _ h, hi_nar, wd_nar, lo_max]
  cases (xs.any fun y => (fEnd l (tl y)).isSome) <;> cases (ys.any fun y => (fEnd l (tl y)).isSome) <;> cases hiB l hi <;> cases hiB l hi2 <;> cases wdB l wd <;> cases wdB l wd2 <;>
    cases (((runL 0 l).drop 1).dropLast.all fun n => decide (lo ≤ (n : Int))) <;> cases (((runL 0 l).drop 1).dropLast.all fun n => decide (lo2 ≤ (n : Int))) <;> rfl
/-- a row has no fault just where it is lawful -/
theorem fault_none {xs : List Str} {lo : Int} {hi wd : Option Int} {l : List Nat} {o : Option Int} (hp : Pw.Pure l) (hx : ∀ x ∈ xs, tl x ≠ []) (hl : 0 ≤ lo) (hh : ∀ h, hi = some h → 0 ≤ h)
    (ho : MinOf o (somesI (endsL xs lo hi wd l))) : o.isNone = lawB xs lo hi wd l := by
  have k := law_take (wd := wd) hp hx hl hh (Nat.le_refl l.length)
  rw [List.take_length] at k
  rcases ho with ⟨rfl, h1⟩ | ⟨m, rfl, h1, h2⟩
  · cases e : lawB xs lo hi wd l with
    | true => rfl
    | false =>
      obtain ⟨j, hj, _⟩ := k.mp e
      have : (j : Int) ∈ somesI (endsL xs lo hi wd l) := mem_somes.mpr ⟨j, hj, rfl⟩
      rw [h1] at this
      cases this
  · obtain ⟨j, hj, rfl⟩ := mem_somes.mp h1
    exact (k.mpr ⟨j, hj, ends_le hx hh hj⟩).symm
theorem Told.same {H H1 : Hp} {R : Addr} {v : V} {xs : List Str} {lo : Int} {hi wd : Option Int} (h : Told H R v xs lo hi wd) (s : Same H H1) : Told H1 R v xs lo hi wd := fun e => by
  obtain ⟨r, p, ys, rfl, hR, a, b⟩ := h e
  exact ⟨r, p, ys, rfl, hR.same s, a, b⟩
theorem Told.perm {H : Hp} {R : Addr} {v : V} {xs ys : List Str} {lo : Int} {hi wd : Option Int} (h : Told H R v xs lo hi wd) (pm : xs.Perm ys) : Told H R v ys lo hi wd := fun e => by
  obtain ⟨r, p, zs, rfl, hR, a, b⟩ := h (by rw [part_perm pm]; exact e)
  exact ⟨r, p, zs, rfl, hR, a.trans pm, b⟩
/-- what why tells of a rule that is made of these parts -/
theorem why_mkd {C1 C C3 C4 C5 C6 C7 C8 R : Addr} {H : Hp} {Q : VK} {xs : List Str} {lo : Int} {hi wd : Option Int} (me : PySem.W.exmOne K (.ref C) (.ref C) = some true) (ne : PySem.W.exmOne K (.ref C) (.ref C1) = some false)
    (hQ : ∀ (p : Addr) (G : Hp) (v : V), Same H G → G p = some (.tup [v, .str (ruleWord xs lo hi wd)]) → Told G R v xs lo hi wd → Q (.ref p) G)
    {tl' : XK → Hp → VK → Prop} (ht : ∀ (E : XK) (Q' : VK), mkd R C xs lo hi wd H Q' E → tl' E H Q') : TTwhy K (whyL C1 C C3 C4 C5 C6 C7 C8) tl' H Q := by
  refine why_rule me ne (partBad xs lo hi wd) (fun s e => part_len e) (fun v G => Told G R v xs lo hi wd) (fun p G G0 v hn s0 s1 hp _ gd => ?_) (fun p G s hb s1 hp _ => ?_) (fun E Q' hq ho => ht E Q' ⟨fun hn r pw zs H' sm _ _ hR hpm hsr => hq hn _ H' sm (fun _ => ⟨r, pw, zs, rfl, hR, hpm, hsr⟩), ho⟩)
  · refine hQ p G v (s0.trans s1) ?_ (gd.same s1)
    unfold ruleWord
    rw [hn]
    exact hp
  · refine hQ p G .non s1 ?_ (fun z => by rw [hb] at z; cases z)
    unfold ruleWord
    rw [hb]
    exact hp
/-- a method's parameters, some by name -/
theorem kb_of {x qual : Str} {st : Stmt} {f : Addr} {fd : FuncData} {ps : List Str} (F : Fun K x qual st f fd) (n : Nat) (ks : List Str) (g : {α : Type} → List α → List α → List α)
    (hrel : ∀ {vs zs : List V} {us ws : List Value}, Vals vs us → Vals zs ws → Vals (g vs zs) (g us ws))
    (h : ∀ (kV doc pm : Value) (an : Option Addr) (cdv ct : Value) (us ws : List Value), us.length = n → ws.length = ks.length →
      bindArgs (PySem.W.fnOf x qual (defArgs st) (defBody st) (defScope st) .none kV doc pm an cdv ct) ⟨us, ks.zip ws⟩ = pure (ps.zip (g us ws))) :
    KBn K fd ps n ks (fun us ws => g us ws) (fun vs zs => g vs zs) := by
  obtain ⟨oc, od, kV, doc, pm, an, cdv, ct, osl, rfl, lk, hcd⟩ := F.ex
  exact ⟨fun s us ws X l1 l2 => BindsTo.of_looks fun M => .of_pure (h kV doc pm an cdv ct us ws l1 l2), fun r1 r2 => hrel r1 r2⟩
end
end K05

set_option Elab.async false
set_option linter.all false
set_option maxRecDepth 100000
set_option maxHeartbeats 4000000
namespace K05
open PySem PySem.Spec PyProof.Rows L2 Pw TL
section
variable {P : Program} {w : World} {K : PySem.W.Frag} {mg : Str → Option Value} {base : Heap}
open LamX
/-! law -/
abbrev sLW : Stmt := topS 60
abbrev nLW : List Str := ["_law_script", "_law_draw", "_law_r", "_law_second", "_law_turn", "_law_found", "_law_due", "_law_size", "_law_row_here", "_law_own", "_law_one", "_law_late", "_law_word_here", "_law_odd"]
theorem scLW : FnScope nLW ["_law_script"] (defScope sLW) := ⟨rfl, rfl, rfl, by decide +kernel, rfl, by decide +kernel, by decide +kernel⟩
def qL : Str := (envOfC "law" (defScope sLW) 0 0 Value.none).qual ++ "<lambda>"
theorem Dr.ext {p q : Addr} {ns : List Int} {H H' : Hp} (h : Dr p q ns H) (s : ExtN H H') : Dr p q ns H' := ⟨s _ _ h.1 (fun _ z => by cases z), let ⟨a, b, c, e, r⟩ := h.2; ⟨a, b, c, s _ _ e (fun _ z => by cases z), r⟩⟩
theorem ext_same {H H' : Hp} (s : Same H H') : ExtN H H' := fun b o e _ => s b o e
theorem tabs_same {T : List (Addr × Str)} {H H' : Hp} (t : Tabs T H) (s : Same H H') : Tabs T H' := t.ext s
theorem tabs_x {T : List (Addr × Str)} {H H' : Hp} {p : Addr} {xs : List V} (t : Tabs T H) (hp : H p = some (.lst xs)) (s : SameX p H H') : Tabs T H' := fun e he => by
  obtain ⟨ps, h1, h2, h3⟩ := t e he
  refine ⟨ps, s _ _ h1 (fun z => ?_), h2, fun pos cv hc => ?_⟩
  · rw [z, hp] at h1
    cases h1
  · obtain ⟨c, e1, e2⟩ := h3 pos cv hc
    refine ⟨c, e1, s _ _ e2 (fun z => ?_)⟩
    rw [z, hp] at e2
    have e3 : HO.lst xs = CodeO p e.2 := Option.some.inj e2
    unfold CodeO at e3
    cases e3
theorem Dr.at {p q : Addr} {ns : List Int} {H : Hp} (h : Dr p q ns H) : ∃ xs, H p = some (.lst xs) := let ⟨_, a, b, c, e, _⟩ := h; ⟨_, e⟩
theorem Parts.ext {H H1 : Hp} {T t : Addr} {xs : List Str} {lo : Int} {hi wd : Option Int} (h : Parts H T t xs lo hi wd) (s : ExtN H H1) : Parts H1 T t xs lo hi wd := ⟨s _ _ h.1 (fun _ z => by cases z), s _ _ h.2 (fun _ z => by cases z)⟩
theorem Parts.x {H H1 : Hp} {p T t : Addr} {xs : List Str} {lo : Int} {hi wd : Option Int} {ys : List V} (h : Parts H T t xs lo hi wd) (hp : H p = some (.lst ys)) (s : SameX p H H1) : Parts H1 T t xs lo hi wd :=
  ⟨s _ _ h.1 (fun z => by have := h.1; rw [z, hp] at this; cases this), s _ _ h.2 (fun z => by have := h.2; rw [z, hp] at this; cases this)⟩
theorem RuleAt.x {H H1 : Hp} {p R r pw : Addr} {xs : List Str} {lo : Int} {hi wd : Option Int} {ys : List V} (h : RuleAt H R r pw xs lo hi wd) (hp : H p = some (.lst ys)) (ne : pw ≠ p) (s : SameX p H H1) : RuleAt H1 R r pw xs lo hi wd := by
  obtain ⟨dx, h1, h2⟩ := h
  exact ⟨dx, s _ _ h1 (fun z => by rw [z, hp] at h1; cases h1), s _ _ h2 ne⟩
theorem RuleAt.ext {H H1 : Hp} {R r pw : Addr} {xs : List Str} {lo : Int} {hi wd : Option Int} (h : RuleAt H R r pw xs lo hi wd) (s : ExtN H H1) : RuleAt H1 R r pw xs lo hi wd := by
  obtain ⟨dx, h1, h2⟩ := h
  exact ⟨dx, s _ _ h1 (fun _ z => by cases z), s _ _ h2 (fun _ z => by cases z)⟩
theorem Told.ext {H H1 : Hp} {R : Addr} {v : V} {xs : List Str} {lo : Int} {hi wd : Option Int} (h : Told H R v xs lo hi wd) (s : ExtN H H1) : Told H1 R v xs lo hi wd := fun e => by
  obtain ⟨r, p, ys, rfl, hR, a, b⟩ := h e
  exact ⟨r, p, ys, rfl, hR.ext s, a, b⟩
theorem cat_read {a b : Addr} {us ws : List V} {G : Hp} {Q : VK} (ha : G a = some (.tup us)) (hb : G b = some (.tup ws)) (hz : us.length + ws.length ≤ sizeLine) (q : ∀ u H', Same G H' → H' u = some (.tup (us ++ ws)) → Q (.ref u) H') : rCatA K (.ref a) (.ref b) G Q := by
  refine ⟨a, b, us, ws, rfl, rfl, .inl (.inl ha), .inl (.inl hb), hz, fun e => ?_, fun _ e => ?_, fun _ _ p np => q p _ (same_new np) upd_same⟩
  · subst e
    exact q b G (Same.refl G) hb
  · subst e
    exact q a G (Same.refl G) (by rw [List.append_nil]; exact ha)
/-- what the law has drawn and made -/
structure Dat where
  p : Addr
  qq : Addr
  Pt : Addr
  R : Addr
  T1 : Addr
  t1 : Addr
  T2 : Addr
  t2 : Addr
  r1 : Addr
  w1 : Addr
  r2 : Addr
  w2 : Addr
  ms : List Int
  xs : List Str
  ys : List Str
  lo : Int
  lo2 : Int
  hi : Option Int
  wd : Option Int
  hi2 : Option Int
  wd2 : Option Int
structure Sg (d : Dat) (G : Hp) : Prop where
  hdr : Dr d.p d.qq d.ms G
  htb : Tabs [(d.Pt, qL)] G
  hP : Parts G d.T1 d.t1 d.xs d.lo d.hi d.wd
  hP2 : Parts G d.T2 d.t2 d.ys d.lo2 d.hi2 d.wd2
  hR : RuleAt G d.R d.r1 d.w1 d.xs d.lo d.hi d.wd
  hR2 : RuleAt G d.R d.r2 d.w2 d.ys d.lo2 d.hi2 d.wd2
  n1 : d.w1 ≠ d.p
  n2 : d.w2 ≠ d.p
theorem Sg.ext {d : Dat} {G G' : Hp} (h : Sg d G) (e : ExtN G G') (tb : Tabs [(d.Pt, qL)] G') : Sg d G' := ⟨h.hdr.ext e, tb, h.hP.ext e, h.hP2.ext e, h.hR.ext e, h.hR2.ext e, h.n1, h.n2⟩
theorem Sg.same {d : Dat} {G G' : Hp} (h : Sg d G) (e : Same G G') : Sg d G' := h.ext (ext_same e) (tabs_same h.htb e)
theorem Sg.x {d : Dat} {G G' : Hp} (h : Sg d G) (s : SameX d.p G G') (dr : Dr d.p d.qq d.ms G') : Sg d G' := by
  obtain ⟨_, hp⟩ := h.hdr.at
  exact ⟨dr, tabs_x h.htb hp s, h.hP.x hp s, h.hP2.x hp s, h.hR.x hp h.n1 s, h.hR2.x hp h.n2 s, h.n1, h.n2⟩
theorem Sg.sq {d : Dat} {G : Hp} (h : Sg d G) : SqT K G d.T1 [.ref d.t1, .int d.lo, vI d.hi, vI d.wd] := .inl (.inl h.hP.1)
theorem ne_head (xs : List Str) (x : Str) : ∃ z, atI ((xs ++ [x]).map V.str) 0 = some (.str z) ∧ (z ∈ xs ∨ z = x) := by
  cases xs with
  | nil => exact ⟨x, rfl, .inr rfl⟩
  | cons a r => exact ⟨a, by show atI (V.str a :: (r ++ [x]).map V.str) 0 = _; simp [atI, ixN]; rw [if_pos (by omega)]; rfl, .inl (List.mem_cons_self ..)⟩
end
end K05

set_option Elab.async false
set_option linter.all false
set_option maxRecDepth 100000
set_option maxHeartbeats 4000000
namespace K05
open PySem PySem.Spec PyProof.Rows L2 Pw TL
section
variable {P : Program} {w : World} {K : PySem.W.Frag} {mg : Str → Option Value} {base : Heap}
open LamX
/-- all that the law calls -/
structure Calls (P : Program) (w : World) (K : PySem.W.Frag) (mg : Str → Option Value) (base : Heap) (R C C0 : Addr) : Prop where
  B : BN mg
  op : UseD P w K mg base CX0 1 "_law_open" ["_law_script"] (spOP K)
  pu : UseD P w K mg base CX0 1 "_law_pull" ["_law_draw", "_law_total_of"] spPU
  pa : UseD P w K mg base CX0 5 "_law_parts" ["_law_draw"] (spPA 6)
  rl : UseD P w K mg base CX0 7 "_law_rule" ["_law_r"] (spRL R)
  wd : UseD P w K mg base CX0 3 "_law_word" ["_law_draw"] spWD
  or : UseD P w K mg base CX0 3 "_law_odd_row" ["_law_draw", "_law_many"] spOR
  od : UseD P w K mg base CX0 6 "_law_odd_parts" ["_law_draw"] (spPO 30)
  he : UseD P w K mg base CX0 6 "_law_held" ["_law_found", "_law_due"] (spHE R)
  jn : UseD P w K mg base CX0 1 "_law_joined" ["_law_r", "_law_second"] spJN
  cl : UseD P w K mg base CX0 1 "_law_clean" ["_law_r"] spCL
  tx : UseD P w K mg base CX0 1 "_law_texts" ["_law_many"] spTX
  la : UseD P w K mg base CX0 2 "_law_lawful" ["_law_r", "_law_row_here"] spLA
  sr : UseD P w K mg base CX0 5 "_law_same_rule" ["_law_made", "_law_r"] (spSR R)
  c : RuleC K R
  lt : UseM P w K mg base (L2.CX P w) 5 R "lets" ["self", "row"] (spFT R C0 fun o => .bl o.isNone)
  mb : UseM P w K mg base (L2.CX P w) 7 R "barring" ["self", "word"] (spMB R C)
  fr : UseM P w K mg base (L2.CX P w) 7 R "freeing" ["self", "word"] (spFR R C)
  jo : UseM P w K mg base (L2.CX P w) 7 R "joined" ["self", "other"] (spJO R C)
  bd : ∃ (f : Addr) (fd : FuncData), FnOk P w K mg base (L2.CX P w) 7 f fd ["self", "low", "high", "span"] (spBD R C) ∧ Meth K R "bounded" f ∧ KBn K fd ["self", "low", "high", "span"] 2 ["high", "span"] (fun us ws => us ++ ws) (fun vs zs => vs ++ zs)
  jk : ∃ (f : Addr) (fd : FuncData), FnOk P w K mg base (L2.CX P w) 7 f fd ["self", "other"] (spJO R C) ∧ Meth K R "joined" f ∧ KBn K fd ["self", "other"] 1 ["other"] (fun us ws => us ++ ws) (fun vs zs => vs ++ zs)
def spLW (K : PySem.W.Frag) (Pt : Addr) : Sp := fun vs H Q _ => ∃ (a : Addr) (ns : List Int), vs = [.ref a] ∧ SqL K H a (ns.map V.int) ∧ Tabs [(Pt, qL)] H ∧ ∀ H', Q (.bl true) H'
set_option maxHeartbeats 8000000 in
theorem ok_lw {f fW c Pt C1 C R C3 C4 C5 C6 C7 D8 : Addr} {dV kV doc pm ct oc dV' kV' doc' pm' cdw ct' oc' : Value} {an od an' od' : Option Addr} {osl osl' : Array (Option Value)}
    (lk : K.lookup f = some ⟨oc, od, .func (PySem.W.fnOf "law" "law" (defArgs sLW) (defBody sLW) (defScope sLW) dV kV doc pm an (.ref c) ct), osl⟩) (hcd : PySem.W.codeIn K (.ref c) "law" = true)
    (lkW : K.lookup fW = some ⟨oc', od', .func (PySem.W.fnOf "_law_why" "_law_why" (defArgs sWH) (defBody sWH) (defScope sWH) dV' kV' doc' pm' an' cdw ct'), osl'⟩) (hcW : PySem.W.codeIn K cdw "_law_why" = true) (mW : mg "_law_why" = some (.ref fW)) (kW : PySem.W.keepIn K (.ref fW) = true)
    (bW : Binds K (PySem.W.fnOf "_law_why" "_law_why" (defArgs sWH) (defBody sWH) (defScope sWH) dV' kV' doc' pm' an' cdw ct') ["_law_ask"] [])
    (TB : TabB base mg c Pt) (T : ClsW K mg C1 C) (h3 : mg "BadPace" = some (.ref C3)) (h4 : mg "TooWide" = some (.ref C4)) (h5 : mg "Unlawful" = some (.ref C5)) (h6 : mg "BadLength" = some (.ref C6)) (h7 : mg "BadText" = some (.ref C7)) (h8 : mg "PulseError" = some (.ref D8))
    (Z : Calls P w K mg base R C C1) :
    FnOk P w K mg base CX0 10 f (PySem.W.fnOf "law" "law" (defArgs sLW) (defBody sLW) (defScope sLW) dV kV doc pm an (.ref c) ct) ["_law_script"] (spLW K Pt) := by
  obtain ⟨fOP, fdOP, GOP, opm, opk, opb⟩ := Z.op.ex
  obtain ⟨fPU, fdPU, GPU, pum, puk, pub⟩ := Z.pu.ex
  obtain ⟨fPA, fdPA, GPA, pam, pak, pab⟩ := Z.pa.ex
  obtain ⟨fRL, fdRL, GRL, rlm, rlk, rlb⟩ := Z.rl.ex
  obtain ⟨fWD, fdWD, GWD, wdm, wdk, wdb⟩ := Z.wd.ex
  obtain ⟨fOR, fdOR, GOR, orm, ork, orb⟩ := Z.or.ex
  obtain ⟨fOD, fdOD, GOD, odm, odk, odb⟩ := Z.od.ex
  obtain ⟨fHE, fdHE, GHE, hem, hek, heb⟩ := Z.he.ex
  obtain ⟨fJN, fdJN, GJN, jnm, jnk, jnb⟩ := Z.jn.ex
  obtain ⟨fCL, fdCL, GCL, clm, clk, clb⟩ := Z.cl.ex
  obtain ⟨fTX, fdTX, GTX, txm, txk, txb⟩ := Z.tx.ex
  obtain ⟨fLA, fdLA, GLA, lam, lak, lab⟩ := Z.la.ex
  obtain ⟨fSR, fdSR, GSR, srm, srk, srb⟩ := Z.sr.ex
  obtain ⟨fLT, fdLT, GLT, ltm, ltb⟩ := Z.lt.ex
  obtain ⟨fMB, fdMB, GMB, mbm, mbb⟩ := Z.mb.ex
  obtain ⟨fFR, fdFR, GFR, frm, frb⟩ := Z.fr.ex
  obtain ⟨fJO, fdJO, GJO, jom, job⟩ := Z.jo.ex
  obtain ⟨fBD, fdBD, GBD, bdm, bdb⟩ := Z.bd
  obtain ⟨fJK, fdJK, GJK, jkm, jkb⟩ := Z.jk
  have Rc := Z.c
  refine fn_of lk hcd scLW (fun vs H Q E h => ?_) (fun A outer s H vs Q E hr h => ?_)
  · obtain ⟨a, ns, rfl, _⟩ := h
    rfl
  · obtain ⟨a, ns, rfl, hS, hT, q⟩ := h
    have r1 : Room 1 _ := hr.mono (by decide)
    have r2 : Room 2 _ := hr.mono (by decide)
    have r3 : Room 3 _ := hr.mono (by decide)
    have r5 : Room 5 _ := hr.mono (by decide)
    have r6 : Room 6 _ := hr.mono (by decide)
    have r7 : Room 7 _ := hr.mono (by decide)
    have whyG : ∀ X : Cx, X.K = K → X.mg = mg → GivesW X ["_law_ask", "_law_told", "_law_word_here", "_law_e"] "_law_why" (defScope sWH) fW cdw (defBody sWH) "_law_ask" (X.env.qual ++ "<lambda>") (TTwhy K (whyL C1 C C3 C4 C5 C6 C7 D8)) := fun X e1 e2 => by
      subst e1
      subst e2
      exact why_ok T h3 h4 h5 h6 h7 h8
    suffices hh : ∃ t, PSs (cxOf CX0 P w K mg base nLW "law" (defScope sLW) f (.ref c) A outer s H E).nox (defBody sLW) t ∧ t { nx := fun _ H' => Q .non H', rt := Q } (L2.start nLW [.ref a]) H by
      obtain ⟨t, h1, h2⟩ := hh
      exact ⟨t, h1.nox, h2⟩
    refine ⟨_, (pss_cons (ps_set (i := 1) scLW.nd rfl (.inl rfl) (pe_call GOP r1 rfl opm opk opb .nil pass0 (pa_cons (pv 0) pa_nil)))
      (pss_cons (ps_set (i := 2) scLW.nd rfl (.inl rfl) (pe_call GPA r5 rfl pam pak pab .nil pass0 (pa_cons (pv 1) pa_nil)))
      (pss_cons (ps_set (i := 3) scLW.nd rfl (.inl rfl) (pe_call GPA r5 rfl pam pak pab .nil pass0 (pa_cons (pv 1) pa_nil)))
      (pss_cons (ps_set (i := 10) scLW.nd rfl (.inr rfl) (pe_call GRL r7 rfl rlm rlk rlb .nil pass0 (pa_cons (pv 2) pa_nil)))
      (pss_cons (ps_set (i := 11) scLW.nd rfl (.inr rfl) (pe_call GRL r7 rfl rlm rlk rlb .nil pass0 (pa_cons (pv 3) pa_nil)))
      (pss_cons (ps_for PassesOwn.never rfl (pi_range1 rfl Z.B.rng (pa_cons pe_int pa_nil)) (pg_name (i := 4) scLW.nd rfl (.inl rfl))
        (_root_.C8.pss_cut (ps_set (i := 12) scLW.nd rfl (.inr rfl) (pe_ix ix_tup (pe_tup (pa_cons (pe_call GWD r3 rfl wdm wdk wdb .nil pass0 (pa_cons (pv 1) pa_nil)) (pa_cons (pe_call GOR r3 rfl orm ork orb .nil pass0 (pa_cons (pv 1) (pa_cons pe_int pa_nil))) (pa_cons (pe_ix ix_tup (pe_op op_catA (pe_ix ix_tup (pv 2) pe_int (fun _ _ => rfl)) (pe_tup (pa_cons pe_str pa_nil))) pe_int (fun _ _ => rfl)) pa_nil)))) (pe_call GPU r1 rfl pum puk pub .nil pass0 (pa_cons (pv 1) (pa_cons pe_int pa_nil))) (fun _ _ => rfl)))
        (_root_.C8.pss_cut (ps_if (pt_not (pt_val (pe_call GHE r6 rfl hem hek heb .nil pass0 (pa_cons (pe_lamW (T := [(Pt, qL)]) (k := 7) (x := "_law_why") (a := "_law_ask") rfl mW kW lkW hcW bW scWH rfl (.inl rfl) (whyG _ rfl rfl) TB rfl (List.mem_singleton.mpr rfl) (fun p hp _ => by rw [List.mem_singleton.mp hp]; rfl) hr (lamS_by (sc := defScope sLW) (by decide +kernel)) rfl (fun _ _ _ _ _ => rfl)
            (fun A outer s H E f c' hr4 => pe_meth (E := E) (pv 10) Rc.c mbm GMB hr4 mbb .nil (passes_call (takes_of rfl rfl rfl rfl) (fun _ _ _ _ z => z)) (pa_cons (pv 12) pa_nil))) (pa_cons (pe_tup (pa_cons (pe_op op_catA (pe_ix ix_tup (pv 2) pe_int (fun _ _ => rfl)) (pe_tup (pa_cons (pv 12) pa_nil))) (pa_cons (pe_ix ix_tup (pv 2) pe_int (fun _ _ => rfl)) (pa_cons (pe_ix ix_tup (pv 2) pe_int (fun _ _ => rfl)) (pa_cons (pe_ix ix_tup (pv 2) pe_int (fun _ _ => rfl)) pa_nil))))) pa_nil))))) (pss_one (ps_ret pe_bl)) pss_nil)
        (_root_.C8.pss_cut (ps_set (i := 5) scLW.nd rfl (.inl rfl) (pe_lamW (T := [(Pt, qL)]) (k := 7) (x := "_law_why") (a := "_law_ask") rfl mW kW lkW hcW bW scWH rfl (.inl rfl) (whyG _ rfl rfl) TB rfl (List.mem_singleton.mpr rfl) (fun p hp _ => by rw [List.mem_singleton.mp hp]; rfl) hr (lamS_by (sc := defScope sLW) (by decide +kernel)) rfl (fun _ _ _ _ _ => rfl)
            (fun A outer s H E f c' hr4 => pe_meth (E := E) (pv 10) Rc.c frm GFR hr4 frb .nil (passes_call (takes_of rfl rfl rfl rfl) (fun _ _ _ _ z => z)) (pa_cons (pv 12) pa_nil))))
        (_root_.C8.pss_cut (ps_set (i := 6) scLW.nd rfl (.inl rfl) (pe_tup (pa_cons (pe_callTy call_tuple_of (by rfl) Z.B.tup (by decide +kernel) (pa_cons (pe_lc (own := [("_law_own", 9)]) (g := gName 9) rfl scLW.nd (pi_tup (pe_ix ix_tup (pv 2) pe_int (fun _ _ => rfl)))
            (blkOk_by (N := nLW) (sc := defScope sLW) (by decide +kernel)) (fun _ _ _ _ _ => pg_name (i := 9) scLW.nd rfl (Or.inl rfl)) (fun _ _ _ _ _ => pts_one (pt_cmpR op_ne (pv 9) (pv 12) (nomark _))) (fun _ _ _ _ _ => pv 9)) pa_nil)) (pa_cons (pe_ix ix_tup (pv 2) pe_int (fun _ _ => rfl)) (pa_cons (pe_ix ix_tup (pv 2) pe_int (fun _ _ => rfl)) (pa_cons (pe_ix ix_tup (pv 2) pe_int (fun _ _ => rfl)) pa_nil))))))
        (_root_.C8.pss_cut (ps_if (PW.pt (pw_or (PW.pt (pw_and (pt_cmpR op_notIn_seq (pv 12) (pe_ix ix_tup (pv 2) pe_int (fun _ _ => rfl)) (by rfl)) (pw_and1 (pt_cmpR (op_neD hr.units) (pv 5) (pe_tup (pa_cons pe_non (pa_cons pe_str pa_nil))) (nomark _))))) (pw_or1 (PW.pt (pw_and (pt_cmpR op_in_seq (pv 12) (pe_ix ix_tup (pv 2) pe_int (fun _ _ => rfl)) (by rfl)) (pw_and1 (pt_not (pt_val (pe_call GHE r6 rfl hem hek heb .nil pass0 (pa_cons (pv 5) (pa_cons (pv 6) pa_nil))))))))))) (pss_one (ps_ret pe_bl)) pss_nil)
        (pss_cons (ps_set (i := 13) scLW.nd rfl (.inr rfl) (pe_call GOD r6 rfl odm odk odb .nil pass0 (pa_cons (pv 1) pa_nil)))
        (pss_cons (ps_set (i := 6) scLW.nd rfl (.inl rfl) (pe_op op_catA (pe_tup (pa_cons (pe_ix ix_tup (pv 2) pe_int (fun _ _ => rfl)) pa_nil)) (pe_slice sl_tupA (pv 13) (po_some pe_int) po_none)))
        (pss_one (ps_if (pt_not (pt_val (pe_call GHE r6 rfl hem hek heb .nil pass0 (pa_cons (pe_lamW (T := [(Pt, qL)]) (k := 7) (x := "_law_why") (a := "_law_ask") rfl mW kW lkW hcW bW scWH rfl (.inl rfl) (whyG _ rfl rfl) TB rfl (List.mem_singleton.mpr rfl) (fun p hp _ => by rw [List.mem_singleton.mp hp]; rfl) hr (lamS_by (sc := defScope sLW) (by decide +kernel)) rfl (fun _ _ _ _ _ => rfl)
            (fun A outer s H E f c' hr4 => pe_methN (E := E) (pv 10) Rc.c bdm GBD hr4 bdb (passes_call (takes_of rfl rfl rfl rfl) (fun _ _ _ _ z => z)) (pa_cons (pe_ix (r := rIxT K) ix_tup (pv 13) pe_int (fun _ _ => rfl)) pa_nil) (pk_cons (pe_ix (r := rIxT K) ix_tup (pv 13) pe_int (fun _ _ => rfl)) (pk_cons (pe_ix (r := rIxT K) ix_tup (pv 13) pe_int (fun _ _ => rfl)) pk_nil)))) (pa_cons (pv 6) pa_nil))))) (pss_one (ps_ret pe_bl)) pss_nil))))))))))
      (_root_.C8.pss_cut (ps_set (i := 6) scLW.nd rfl (.inl rfl) (pe_call GCL r1 rfl clm clk clb .nil pass0 (pa_cons (pe_call GJN r1 rfl jnm jnk jnb .nil pass0 (pa_cons (pv 2) (pa_cons (pv 3) pa_nil))) pa_nil)))
      (_root_.C8.pss_cut (ps_set (i := 5) scLW.nd rfl (.inl rfl) (pe_lamW (T := [(Pt, qL)]) (k := 7) (x := "_law_why") (a := "_law_ask") rfl mW kW lkW hcW bW scWH rfl (.inl rfl) (whyG _ rfl rfl) TB rfl (List.mem_singleton.mpr rfl) (fun p hp _ => by rw [List.mem_singleton.mp hp]; rfl) hr (lamS_by (sc := defScope sLW) (by decide +kernel)) rfl (fun _ _ _ _ _ => rfl)
            (fun A outer s H E f c' hr4 => pe_meth (E := E) (pv 10) Rc.c jom GJO hr4 job .nil (passes_call (takes_of rfl rfl rfl rfl) (fun _ _ _ _ z => z)) (pa_cons (pv 11) pa_nil))))
      (_root_.C8.pss_cut (ps_if (PW.pt (pw_or (pt_not (pt_val (pe_call GHE r6 rfl hem hek heb .nil pass0 (pa_cons (pv 5) (pa_cons (pv 6) pa_nil))))) (pw_or1 (pt_not (pt_val (pe_call GHE r6 rfl hem hek heb .nil pass0 (pa_cons (pe_lamW (T := [(Pt, qL)]) (k := 7) (x := "_law_why") (a := "_law_ask") rfl mW kW lkW hcW bW scWH rfl (.inl rfl) (whyG _ rfl rfl) TB rfl (List.mem_singleton.mpr rfl) (fun p hp _ => by rw [List.mem_singleton.mp hp]; rfl) hr (lamS_by (sc := defScope sLW) (by decide +kernel)) rfl (fun _ _ _ _ _ => rfl)
            (fun A outer s H E f c' hr4 => pe_methN0 (E := E) (pv 11) Rc.c jkm GJK hr4 jkb (passes_call (takes_of rfl rfl rfl rfl) (fun _ _ _ _ z => z)) (pk_cons (pv 10) pk_nil))) (pa_cons (pv 6) pa_nil)))))))) (pss_one (ps_ret pe_bl)) pss_nil)
      (_root_.C8.pss_cut (ps_if (pt_cmpR op_eq (pe_ix ix_tup (pv 5) pe_int (fun _ _ => rfl)) pe_str (nomark _)) (pss_one (ps_for PassesOwn.never rfl (pi_range1 rfl Z.B.rng (pa_cons pe_int pa_nil)) (pg_name (i := 7) scLW.nd rfl (.inl rfl))
        (pss_one (ps_for PassesOwn.never rfl (pi_list (pe_call GTX r1 rfl txm txk txb .nil pass0 (pa_cons (pv 7) pa_nil))) (pg_name (i := 8) scLW.nd rfl (.inl rfl))
          (pss_one (ps_if (pt_cmpR op_ne (pe_meth (pe_ix ix_tup (pv 5) pe_int (fun _ _ => rfl)) Rc.c ltm GLT r5 ltb .nil passL (pa_cons (pv 8) pa_nil)) (pe_and (pe_call GLA r2 rfl lam lak lab .nil pass0 (pa_cons (pv 2) (pa_cons (pv 8) pa_nil))) (pe_one (pe_call GLA r2 rfl lam lak lab .nil pass0 (pa_cons (pv 3) (pa_cons (pv 8) pa_nil))))) (nomark _)) (pss_one (ps_ret pe_bl)) pss_nil)))))) pss_nil)
      (pss_one (ps_ret (pe_and (pe_call GSR r5 rfl srm srk srb .nil pass0 (pa_cons (pv 10) (pa_cons (pv 2) pa_nil))) (pe_one (pe_call GSR r5 rfl srm srk srb .nil pass0 (pa_cons (pv 11) (pa_cons (pv 3) pa_nil))))))))))))))))), ?_⟩
    refine ⟨.ref a, rfl, a, ns, rfl, hS, fun H1 p qq ms s1 np hD1 => ?_⟩
    have hT1 := tabs_same hT s1
    obtain ⟨_, hp1⟩ := hD1.at
    refine ⟨.ref p, rfl, p, qq, ms, rfl, hD1, fun T1 t1 xs lo hi wd H2 x6 xg xsr xb nT nt hP g2 => ?_⟩
    have hT2 := tabs_x hT1 hp1 g2.sx
    obtain ⟨_, hp2⟩ := g2.dr.at
    refine ⟨.ref p, rfl, p, qq, ms, rfl, g2.dr, fun T2 t2 ys lo2 hi2 wd2 H3 y6' yg ysr yb nT2 nt2 hP2 g3 => ?_⟩
    have hT3 := tabs_x hT2 hp2 g3.sx
    have hP3 := hP.x hp2 g3.sx
    refine ⟨.ref T1, rfl, T1, t1, xs, lo, hi, wd, rfl, hP3, by omega, xg.1, xb, fun r1' w1 zs1 H4 s4 nr nw hR1 pm1 sr1 => ?_⟩
    obtain rfl : zs1 = xs := sortedS_one pm1 sr1 xsr
    refine ⟨.ref T2, rfl, T2, t2, ys, lo2, hi2, wd2, rfl, hP2.same s4, by omega, yg.1, yb, fun r2' w2 zs2 H5 s5 nr2 nw2 hR2 pm2 sr2 => ?_⟩
    obtain rfl : zs2 = ys := sortedS_one pm2 sr2 ysr
    have S5 : Sg ⟨p, qq, Pt, R, T1, t1, T2, t2, r1', w1, r2', w2, ms, zs1, zs2, lo, lo2, hi, wd, hi2, wd2⟩ H5 :=
      ⟨(g3.dr.same s4).same s5, tabs_same (tabs_same hT3 s4) s5, (hP3.same s4).same s5, (hP2.same s4).same s5, hR1.same s5, hR2, g3.dr.nn nw, (g3.dr.same s4).nn nw2⟩
    have fx : Fit zs1 := ⟨by omega, fun y hy => (xg.1 y hy).1⟩
    have fy : Fit zs2 := ⟨by omega, fun y hy => (yg.1 y hy).1⟩
    clear hR2 hR1 hP3 hP2 hP hT3 hT2 g3 g2 hT1 hp1 hp2 hD1 s4 s5 nr nw nr2 nw2 nT nt nT2 nt2 pm1 pm2 sr1 sr2
    generalize hd : (⟨p, qq, Pt, R, T1, t1, T2, t2, r1', w1, r2', w2, ms, zs1, zs2, lo, lo2, hi, wd, hi2, wd2⟩ : Dat) = d at S5
    obtain rfl : d.p = p := by rw [← hd]
    obtain rfl : d.qq = qq := by rw [← hd]
    obtain rfl : d.Pt = Pt := by rw [← hd]
    obtain rfl : d.R = R := by rw [← hd]
    obtain rfl : d.T1 = T1 := by rw [← hd]
    obtain rfl : d.T2 = T2 := by rw [← hd]
    obtain rfl : d.r1 = r1' := by rw [← hd]
    obtain rfl : d.r2 = r2' := by rw [← hd]
    obtain rfl : d.xs = zs1 := by rw [← hd]
    obtain rfl : d.ys = zs2 := by rw [← hd]
    obtain rfl : d.lo = lo := by rw [← hd]
    obtain rfl : d.lo2 = lo2 := by rw [← hd]
    obtain rfl : d.hi = hi := by rw [← hd]
    obtain rfl : d.hi2 = hi2 := by rw [← hd]
    obtain rfl : d.wd = wd := by rw [← hd]
    obtain rfl : d.wd2 = wd2 := by rw [← hd]
    clear hd
    refine ⟨4, rfl, by decide, by decide, for_range (lo := 0) (n := 4) (fun _ σ H6 => (∃ y4 y5 y6 y12 y13, σ = [some (.ref a), some (.ref d.p), some (.ref d.T1), some (.ref d.T2), y4, y5, y6, none, none, none, some (.ref d.r1), some (.ref d.r2), y12, y13]) ∧ Sg d H6)
      ⟨⟨_, _, _, _, _, rfl⟩, S5⟩ (fun i σ H6 _ h => ?_) (fun σ H6 h => ?_)⟩
    · clear S5
      obtain ⟨⟨y4, y5, y6, y12, y13, rfl⟩, S6⟩ := h
      refine ⟨fun σ G => ∃ x : Str, (tl x).length ≤ 1000 ∧ σ = [some (.ref a), some (.ref d.p), some (.ref d.T1), some (.ref d.T2), some (.int (0 + (i : Int))), y5, y6, none, none, none, some (.ref d.r1), some (.ref d.r2), some (.str x), y13] ∧ Sg d G, ?_, ?_⟩
      · refine ⟨.ref d.p, rfl, d.p, d.qq, d.ms, rfl, S6.hdr, fun xa Ha la _ _ sxa hDa => ⟨.ref d.p, rfl, d.p, d.qq, d.ms, 6, rfl, by decide, hDa, fun xb Hb lb sxb hDb => ?_⟩⟩
        have Sb := (S6.x sxa hDa).x sxb hDb
        refine ⟨.ref d.T1, rfl, d.T1, _, 0, .ref d.t1, rfl, rfl, Sb.sq, rfl, by show 1 ≤ sizeLine; decide, fun b nb => ?_⟩
        have Sc := Sb.same (same_new (o := .tup [.str (Str.ofString "11")]) nb)
        refine cat_read (us := d.xs.map V.str) (ws := [.str (Str.ofString "11")]) Sc.hP.2 upd_same ?_ (fun u G su hu => ?_)
        · rw [List.length_map]
          exact Nat.le_of_lt (small1000 (by show d.xs.length + 1 ≤ 1000; omega))
        obtain ⟨z, ez, hz⟩ := ne_head d.xs (Str.ofString "11")
        rw [List.map_append] at ez
        have Su := Sc.same su
        refine ⟨u, _, 0, .str z, rfl, rfl, .inl (.inl hu), ez, by show 3 ≤ sizeLine; decide, fun D nD => ?_⟩
        have SD := Su.same (same_new (o := .tup [.str xa, .str xb, .str z]) nD)
        refine ⟨.ref d.p, rfl, d.p, d.qq, d.ms, 3, rfl, by decide, by decide, SD.hdr, fun v G2 v0 v1 sx2 hD2 => ?_⟩
        have S2 := SD.x sx2 hD2
        have hDp : D ≠ d.p := Su.hdr.nn nD
        have sqD : SqT K G2 D [.str xa, .str xb, .str z] := .inl (.inl (sx2 _ _ upd_same hDp))
        have lz : (tl z).length ≤ 1000 := by
          rcases hz with h | h
          · exact fx.2 z h
          · rw [h]
            decide
        have e3 : v = 0 ∨ v = 1 ∨ v = 2 := by omega
        rcases e3 with rfl | rfl | rfl
        · exact ⟨D, _, 0, .str xa, rfl, rfl, sqD, rfl, xa, by omega, rfl, S2⟩
        · exact ⟨D, _, 1, .str xb, rfl, rfl, sqD, rfl, xb, lb, rfl, S2⟩
        · exact ⟨D, _, 2, .str z, rfl, rfl, sqD, rfl, z, lz, rfl, S2⟩
      rintro _ G0 ⟨x, hx, rfl, S0⟩
      clear S6
      refine ⟨fun σ G => σ = [some (.ref a), some (.ref d.p), some (.ref d.T1), some (.ref d.T2), some (.int (0 + (i : Int))), y5, y6, none, none, none, some (.ref d.r1), some (.ref d.r2), some (.str x), y13] ∧ Sg d G, ?_, ?_⟩
      · refine ⟨S0.htb, fun H10 e10 T10 => why_mkd (R := d.R) (xs := d.xs ++ [x]) (lo := d.lo) (hi := d.hi) (wd := d.wd) T.me T.ne (fun tf G v sG htf told => ?_) (fun E Q' k => ?_)⟩
        · have SG := (S0.ext e10 T10).same sG
          refine ⟨.ref d.T1, rfl, d.T1, _, 0, .ref d.t1, rfl, rfl, SG.sq, rfl, _, rfl, by show 1 ≤ sizeLine; decide, fun b nb => ?_⟩
          have sb := same_new (o := .tup [.str x]) nb
          refine cat_read (us := d.xs.map V.str) (ws := [.str x]) (sb _ _ SG.hP.2) upd_same ?_ (fun u G' su hu => ?_)
          · rw [List.length_map]
            exact Nat.le_of_lt (small1000 (by show d.xs.length + 1 ≤ 1000; omega))
          have s3 := sb.trans su
          have S3 := SG.same s3
          refine ⟨.ref d.T1, rfl, d.T1, _, 1, .int d.lo, rfl, rfl, S3.sq, rfl, .ref d.T1, rfl, d.T1, _, 2, vI d.hi, rfl, rfl, S3.sq, rfl, .ref d.T1, rfl, d.T1, _, 3, vI d.wd, rfl, rfl, S3.sq, rfl, by show 4 ≤ sizeLine; decide, fun TD nTD => ?_⟩
          have sT := same_new (o := .tup [.ref u, .int d.lo, vI d.hi, vI d.wd]) nTD
          have s4 := s3.trans sT
          refine ⟨tf, TD, u, v, d.xs ++ [x], d.lo, d.hi, d.wd, rfl, s4 _ _ htf, ⟨upd_same, by rw [List.map_append]; exact sT _ _ hu⟩, ?_, fun y hy => ?_, told.same s4, fun G5 s5 => ⟨_, rfl, iteF ⟨rfl, SG.same (s4.trans s5)⟩⟩⟩
          · rw [List.length_append]
            show d.xs.length + 1 ≤ 60
            omega
          · rcases List.mem_append.mp hy with z | z
            · exact fx.2 y z
            · rw [List.mem_singleton.mp z]
              exact hx
        · have S10 := S0.ext e10 T10
          obtain ⟨dx, hr1, _⟩ := id S10.hR
          exact ⟨.ref d.r1, rfl, d.r1, dx, _, rfl, hr1, rfl, _, rfl, d.r1, d.w1, d.xs, d.lo, d.hi, d.wd, x, rfl, S10.hR, fx, hx, k⟩
      rintro _ G1 ⟨rfl, S1⟩
      clear S0
      refine ⟨fun σ G => ∃ tf : Addr, σ = [some (.ref a), some (.ref d.p), some (.ref d.T1), some (.ref d.T2), some (.int (0 + (i : Int))), some (.ref tf), y6, none, none, none, some (.ref d.r1), some (.ref d.r2), some (.str x), y13] ∧ Sg d G ∧
        (x ∈ d.xs → ∃ v, G tf = some (.tup [v, .str (ruleWord (d.xs.filter fun y => !decide (y = x)) d.lo d.hi d.wd)]) ∧ Told G d.R v (d.xs.filter fun y => !decide (y = x)) d.lo d.hi d.wd) ∧ (x ∉ d.xs → G tf = some (.tup [.non, .str (Str.ofString "badrule " ++ Str.ofString "words")])), ?_, ?_⟩
      · by_cases hin : x ∈ d.xs
        · refine ⟨S1.htb, fun H10 e10 T10 => why_mkd (R := d.R) (xs := d.xs.filter fun y => !decide (y = x)) (lo := d.lo) (hi := d.hi) (wd := d.wd) T.me T.ne (fun tf G v sG htf told => ?_) (fun E Q' k => ?_)⟩
          · exact ⟨tf, rfl, (S1.ext e10 T10).same sG, fun _ => ⟨v, htf, told⟩, fun z => absurd hin z⟩
          · have S10 := S1.ext e10 T10
            obtain ⟨dx, hr1, _⟩ := id S10.hR
            exact ⟨.ref d.r1, rfl, d.r1, dx, _, rfl, hr1, rfl, _, rfl, d.r1, d.w1, d.xs, d.lo, d.hi, d.wd, x, rfl, S10.hR, fx, fun _ => k, fun z => absurd hin z⟩
        · refine ⟨S1.htb, fun H10 e10 T10 => why_rule T.me T.ne (some (Str.ofString "words")) (fun s e => by rw [← Option.some.inj e]; decide) (fun _ _ => True) (fun tp G G0 v hn _ _ _ _ _ => by cases hn) (fun tp G s hb sA ht _ => ?_) (fun E Q' hq ho => ?_)⟩
          · obtain rfl := Option.some.inj hb
            exact ⟨tp, rfl, (S1.ext e10 T10).same sA, fun z => absurd z hin, fun _ => ht⟩
          · have S10 := S1.ext e10 T10
            obtain ⟨dx, hr1, _⟩ := id S10.hR
            exact ⟨.ref d.r1, rfl, d.r1, dx, _, rfl, hr1, rfl, _, rfl, d.r1, d.w1, d.xs, d.lo, d.hi, d.wd, x, rfl, S10.hR, fx, fun z => absurd z hin, fun _ => ho⟩
      rintro _ G2 ⟨tf, rfl, S2, hin, hout⟩
      clear S1
      refine ⟨fun σ G => ∃ tD uD : Addr, σ = [some (.ref a), some (.ref d.p), some (.ref d.T1), some (.ref d.T2), some (.int (0 + (i : Int))), some (.ref tf), some (.ref tD), none, none, none, some (.ref d.r1), some (.ref d.r2), some (.str x), y13] ∧ Sg d G ∧ Same G2 G ∧ Parts G tD uD (d.xs.filter fun y => !decide (y = x)) d.lo d.hi d.wd, ?_, ?_⟩
      · refine ⟨.ref d.T1, rfl, d.T1, _, 0, .ref d.t1, rfl, rfl, S2.sq, rfl, d.t1, rfl, ⟨_, .inl (.inl S2.hP.2)⟩, fun D nD => ?_⟩
        refine lc_tup (K := K) (a := d.t1) (xs := d.xs.map V.str) (fun j H3 => Same G2 H3 ∧ H3 D = some (.lst (((d.xs.take j).filter fun y => !decide (y = x)).map V.str)))
          ⟨same_new nD, upd_same⟩ (fun j H3 _ h => .inl (.inl (h.1 _ _ S2.hP.2))) (fun j v H3 hv h => ?_) (fun H3 h => ?_)
        · obtain ⟨s3, h3⟩ := h
          rw [List.getElem?_map] at hv
          cases hz : d.xs[j]? with
          | none =>
            rw [hz] at hv
            cases hv
          | some z =>
            rw [hz] at hv
            obtain rfl : V.str z = v := Option.some.inj hv
            have hlt : ((d.xs.take j).filter fun y => !decide (y = x)).length ≤ 20 := Nat.le_trans (List.length_filter_le _ _) (by rw [List.length_take]; have := fx.1; omega)
            refine ⟨rfl, _, rfl, _, rfl, rfl, _, rfl, ?_⟩
            have ed : decide (V.str z = V.str x) = decide (z = x) := by
              by_cases e : z = x
              · rw [e, decide_eq_true rfl, decide_eq_true rfl]
              · rw [decide_eq_false e, decide_eq_false (fun y => e (V.str.inj y))]
            rw [ed]
            by_cases e : z = x
            · rw [decide_eq_true e]
              refine iteF ⟨s3, ?_⟩
              rw [take_filter hz, if_neg (by rw [decide_eq_true e]; decide), List.append_nil]
              exact h3
            · rw [decide_eq_false e]
              refine iteT ⟨_, rfl, _, h3, ?_, same_put s3 nD, ?_⟩
              · rw [List.length_map]
                exact small1000 (by omega)
              · rw [upd_same, take_filter hz, if_pos (by rw [decide_eq_false e]; rfl), List.map_append]
                rfl
        · obtain ⟨s3, h3⟩ := h
          rw [List.length_map, List.take_length] at h3
          refine ⟨D, _, rfl, .inl ⟨SqL.of h3, fun u nu => ?_⟩⟩
          have su := same_new (o := .tup ((d.xs.filter fun y => !decide (y = x)).map V.str)) nu
          have S3 := S2.same (s3.trans su)
          refine ⟨.ref d.T1, rfl, d.T1, _, 1, .int d.lo, rfl, rfl, S3.sq, rfl, .ref d.T1, rfl, d.T1, _, 2, vI d.hi, rfl, rfl, S3.sq, rfl, .ref d.T1, rfl, d.T1, _, 3, vI d.wd, rfl, rfl, S3.sq, rfl, by show 4 ≤ sizeLine; decide, fun TD nTD => ?_⟩
          have sT := same_new (o := .tup [.ref u, .int d.lo, vI d.hi, vI d.wd]) nTD
          exact ⟨TD, u, rfl, S3.same sT, (s3.trans su).trans sT, upd_same, sT _ _ upd_same⟩
      rintro _ G3 ⟨tD, uD, rfl, S3, s23, hPD⟩
      refine ⟨fun σ G => (∃ y5 y6, σ = [some (.ref a), some (.ref d.p), some (.ref d.T1), some (.ref d.T2), some (.int (0 + (i : Int))), y5, y6, none, none, none, some (.ref d.r1), some (.ref d.r2), some (.str x), y13]) ∧ Sg d G, ?_, ?_⟩
      · have fl := fit_filter fx fun y => !decide (y = x)
        have fl1 := fl.1
        refine ⟨_, rfl, .ref d.T1, rfl, d.T1, _, 0, .ref d.t1, rfl, rfl, S3.sq, rfl, d.t1, _, rfl, .inr (.inl (.inl S3.hP.2)), rfl, flat_strs d.xs, _, rfl, ?_⟩
        by_cases hi' : x ∈ d.xs
        · obtain ⟨v, hv, told⟩ := hin hi'
          rw [if_pos rfl, (inV_str x d.xs).mpr hi']
          refine iteF (iteF ⟨_, rfl, .ref d.T1, rfl, d.T1, _, 0, .ref d.t1, rfl, rfl, S3.sq, rfl, d.t1, _, rfl, .inr (.inl (.inl S3.hP.2)), rfl, flat_strs d.xs, _, rfl, ?_⟩)
          have hb : (if false = true then !inV (.str x) (d.xs.map V.str) else inV (.str x) (d.xs.map V.str)) = true := by
            rw [if_neg Bool.false_ne_true, (inV_str x d.xs).mpr hi']
          rw [hb]
          exact iteT ⟨_, rfl, _, rfl, tf, tD, uD, v, _, d.lo, d.hi, d.wd, rfl, s23 _ _ hv, hPD, by omega, fl.2, told.same s23, fun G5 s5 => ⟨_, rfl, iteF ⟨⟨_, _, rfl⟩, S3.same s5⟩⟩⟩
        · have hf : inV (.str x) (d.xs.map V.str) = false := by
            cases e : inV (.str x) (d.xs.map V.str) with
            | false => rfl
            | true => exact absurd ((inV_str x d.xs).mp e) hi'
          rw [if_pos rfl, hf]
          refine iteT ⟨_, rfl, by show 2 ≤ sizeLine; decide, fun N nN => ?_⟩
          have sN := same_new (o := .tup [.non, .str (Str.ofString "badrule words")]) nN
          have htf := sN _ _ (s23 _ _ (hout hi'))
          have SN := S3.same sN
          refine ⟨.tuple [.none, .str (Str.ofString "badrule words")], .tuple [.none, .str (Str.ofString "badrule words")], .tup (.inl (.inl htf)) (.cons .non (.cons (.str _) .nil)), .tup (.inl (.inl upd_same)) (.cons .non (.cons (.str _) .nil)), by decide +kernel, by decide +kernel, _, rfl, ?_⟩
          have he : PyData.eqv (.tuple [.none, .str (Str.ofString "badrule words")]) (.tuple [.none, .str (Str.ofString "badrule words")]) = true := by decide +kernel
          rw [he]
          refine iteF ⟨_, rfl, .ref d.T1, rfl, d.T1, _, 0, .ref d.t1, rfl, rfl, SN.sq, rfl, d.t1, _, rfl, .inr (.inl (.inl SN.hP.2)), rfl, flat_strs d.xs, _, rfl, ?_⟩
          have hb : (if false = true then !inV (.str x) (d.xs.map V.str) else inV (.str x) (d.xs.map V.str)) = false := by
            rw [if_neg Bool.false_ne_true, hf]
          rw [hb]
          exact iteF (iteF ⟨⟨_, _, rfl⟩, SN⟩)
      rintro _ G4 ⟨⟨z5, z6, rfl⟩, S4⟩
      clear S2 S3 hin hout hPD s23
      refine ⟨.ref d.p, rfl, d.p, d.qq, d.ms, rfl, S4.hdr, fun To to zs lo' hi' wd' H5 h30 hs nT nt hPo g5 => ?_⟩
      have S5 := S4.x g5.sx g5.dr
      refine ⟨.ref d.T1, rfl, d.T1, _, 0, .ref d.t1, rfl, rfl, S5.sq, rfl, by show 1 ≤ sizeLine; decide, fun b nb => ?_⟩
      have sb := same_new (o := .tup [.ref d.t1]) nb
      refine ⟨.ref To, rfl, 1, rfl, To, _, rfl, .inl (.inl (sb _ _ hPo.1)), (fun z => absurd z.1 (by show ¬ (HT.sIx 4 0 (some 1) = 0); decide)), fun _ b2 nb2 => ?_⟩
      have ec : cutV [V.ref to, .int lo', vI hi', vI wd'] (some 1) none = [.int lo', vI hi', vI wd'] := rfl
      rw [ec]
      have sb2 := same_new (o := .tup [.int lo', vI hi', vI wd']) nb2
      refine cat_read (us := [.ref d.t1]) (ws := [.int lo', vI hi', vI wd']) (sb2 _ _ upd_same) upd_same (by show 1 + 3 ≤ sizeLine; decide) (fun TD G su hTD => ?_)
      have s6 := (sb.trans sb2).trans su
      have S6 := S5.same s6
      have hPo6 := hPo.same s6
      clear S5 S4
      refine ⟨S6.htb, fun H10 e10 T10 => why_mkd (R := d.R) (xs := d.xs) (lo := lo') (hi := hi') (wd := wd') T.me T.ne (fun tf G' v sG htf told => ?_) (fun E Q' k => ?_)⟩
      · have SG := (S6.ext e10 T10).same sG
        have hTD' : G' TD = some (.tup [.ref d.t1, .int lo', vI hi', vI wd']) := sG _ _ (e10 _ _ hTD (fun _ z => by cases z))
        exact ⟨_, rfl, tf, TD, d.t1, v, d.xs, lo', hi', wd', rfl, htf, ⟨hTD', SG.hP.2⟩, by omega, fx.2, told, fun G7 s7 => ⟨_, rfl, iteF ⟨⟨_, _, _, _, _, rfl⟩, SG.same s7⟩⟩⟩
      · have S10 := S6.ext e10 T10
        have sqo : SqT K H10 To [.ref to, .int lo', vI hi', vI wd'] := .inl (.inl (hPo6.ext e10).1)
        obtain ⟨dx, hr1, _⟩ := id S10.hR
        exact ⟨.ref d.r1, rfl, d.r1, dx, _, rfl, hr1, rfl, .ref To, rfl, To, _, 1, .int lo', rfl, rfl, sqo, rfl, .ref To, rfl, To, _, 2, vI hi', rfl, rfl, sqo, rfl, .ref To, rfl, To, _, 3, vI wd', rfl, rfl, sqo, rfl, rfl, rfl, d.r1, d.w1, d.xs, d.lo, d.hi, d.wd, lo', hi', wd', rfl, S10.hR, fx, k⟩
    · obtain ⟨⟨y4, y5, y6, y12, y13, rfl⟩, S6⟩ := h
      clear S5
      have hx99 := part_99 xb
      have hy99 := part_99 yb
      refine ⟨fun σ G => ∃ (TD uD : Addr) (zs : List Str), σ = [some (.ref a), some (.ref d.p), some (.ref d.T1), some (.ref d.T2), y4, y5, some (.ref TD), none, none, none, some (.ref d.r1), some (.ref d.r2), y12, y13] ∧ Sg d G ∧
        Parts G TD uD zs (max d.lo d.lo2) (nar d.hi d.hi2) (nar d.wd d.wd2) ∧ zs.Perm (uniq [] (d.xs ++ d.ys)), ?_, ?_⟩
      · refine ⟨.ref d.T1, rfl, .ref d.T2, rfl, d.T1, d.t1, d.xs, d.lo, d.hi, d.wd, d.T2, d.t2, d.ys, d.lo2, d.hi2, d.wd2, rfl, S6.hP, S6.hP2, x6, y6', hx99.1, hx99.2, hy99.1, hy99.2, fun S u zs G sA hS hu zp _ => ?_⟩
        refine ⟨S, u, _, _, _, rfl, hS, fun S2 G2 sB hS2 => ?_⟩
        rw [un_m99 hx99.1 hy99.1, un_m99 hx99.2 hy99.2] at hS2
        exact ⟨S2, u, zs, rfl, S6.same (sA.trans sB), ⟨hS2, sB _ _ hu⟩, zp⟩
      rintro _ G1 ⟨TD, uD, zs, rfl, S1, hPD, zp⟩
      clear S6
      have bp : (both d.xs d.ys).Perm zs := (both_perm xg.2.1 yg.2.1).trans zp.symm
      have bp2 : (both d.ys d.xs).Perm zs := ((both_perm yg.2.1 xg.2.1).trans (uniq_swap d.xs d.ys)).trans zp.symm
      have zl : zs.length ≤ 12 := by
        rw [zp.length_eq]
        have := uniq_len (d.xs ++ d.ys) []
        rw [List.length_append, List.length_nil] at this
        omega
      have zf : Fine zs := fun y hy => by
        have := (uniq_mem y (d.xs ++ d.ys) []).mp (zp.mem_iff.mp hy)
        rcases this with h | h
        · cases h
        · rcases List.mem_append.mp h with h | h
          · exact fx.2 y h
          · exact fy.2 y h
      refine ⟨fun σ G => ∃ (tf : Addr) (v : V), σ = [some (.ref a), some (.ref d.p), some (.ref d.T1), some (.ref d.T2), y4, some (.ref tf), some (.ref TD), none, none, none, some (.ref d.r1), some (.ref d.r2), y12, y13] ∧ Sg d G ∧
        Parts G TD uD zs (max d.lo d.lo2) (nar d.hi d.hi2) (nar d.wd d.wd2) ∧ G tf = some (.tup [v, .str (ruleWord zs (max d.lo d.lo2) (nar d.hi d.hi2) (nar d.wd d.wd2))]) ∧ Told G d.R v zs (max d.lo d.lo2) (nar d.hi d.hi2) (nar d.wd d.wd2), ?_, ?_⟩
      · refine ⟨S1.htb, fun H10 e10 T10 => why_mkd (R := d.R) (xs := both d.xs d.ys) (lo := max d.lo d.lo2) (hi := nar d.hi d.hi2) (wd := nar d.wd d.wd2) T.me T.ne (fun tf G v sG htf told => ?_) (fun E Q' k => ?_)⟩
        · rw [word_perm bp] at htf
          exact ⟨tf, v, rfl, (S1.ext e10 T10).same sG, (hPD.ext e10).same sG, htf, told.perm bp⟩
        · have S10 := S1.ext e10 T10
          obtain ⟨dx, hr1, _⟩ := id S10.hR
          exact ⟨.ref d.r1, rfl, d.r1, dx, _, rfl, hr1, rfl, _, rfl, d.r1, d.w1, d.xs, d.lo, d.hi, d.wd, d.r2, d.w2, d.ys, d.lo2, d.hi2, d.wd2, rfl, S10.hR, S10.hR2, fx, fy, k⟩
      rintro _ G2 ⟨tf, v, rfl, S2, hPD2, htf, told⟩
      clear S1 hPD
      refine ⟨fun σ G => σ = [some (.ref a), some (.ref d.p), some (.ref d.T1), some (.ref d.T2), y4, some (.ref tf), some (.ref TD), none, none, none, some (.ref d.r1), some (.ref d.r2), y12, y13] ∧ Sg d G ∧
        G tf = some (.tup [v, .str (ruleWord zs (max d.lo d.lo2) (nar d.hi d.hi2) (nar d.wd d.wd2))]) ∧ Told G d.R v zs (max d.lo d.lo2) (nar d.hi d.hi2) (nar d.wd d.wd2), ?_, ?_⟩
      · refine ⟨_, rfl, _, rfl, tf, TD, uD, v, zs, _, _, _, rfl, htf, hPD2, by omega, zf, told, fun G3 s3 => ⟨_, rfl, iteF ?_⟩⟩
        have S3 := S2.same s3
        have hPD3 := hPD2.same s3
        have htf3 := s3 _ _ htf
        have told3 := told.same s3
        refine ⟨S3.htb, fun H10 e10 T10 => why_mkd (R := d.R) (xs := both d.ys d.xs) (lo := max d.lo2 d.lo) (hi := nar d.hi2 d.hi) (wd := nar d.wd2 d.wd) T.me T.ne (fun tg G v2 sG htg told2 => ?_) (fun E Q' k => ?_)⟩
        · rw [word_perm bp2, Int.max_comm, nar_comm d.hi2, nar_comm d.wd2] at htg
          have told2' := told2.perm bp2
          rw [Int.max_comm, nar_comm d.hi2, nar_comm d.wd2] at told2'
          have eA : ExtN G3 G := e10.trans (ext_same sG)
          exact ⟨_, rfl, tg, TD, uD, v2, zs, _, _, _, rfl, htg, hPD3.ext eA, by omega, zf, told2', fun G5 s5 => ⟨_, rfl, iteF ⟨rfl, ((S3.ext e10 T10).same sG).same s5, s5 _ _ (eA _ _ htf3 (fun _ z => by cases z)), (told3.ext eA).same s5⟩⟩⟩
        · have S10 := S3.ext e10 T10
          obtain ⟨dx, hr1, _⟩ := id S10.hR2
          exact ⟨.ref d.r2, rfl, d.r2, dx, _, rfl, hr1, rfl, _, rfl, rfl, rfl, d.r2, d.w2, d.ys, d.lo2, d.hi2, d.wd2, d.r1, d.w1, d.xs, d.lo, d.hi, d.wd, rfl, S10.hR2, S10.hR, fy, fx, k⟩
      rintro _ G3 ⟨rfl, S3, htf3, told3⟩
      clear S2 hPD2 htf told
      refine ⟨fun σ G => (∃ y7 y8, σ = [some (.ref a), some (.ref d.p), some (.ref d.T1), some (.ref d.T2), y4, some (.ref tf), some (.ref TD), y7, y8, none, some (.ref d.r1), some (.ref d.r2), y12, y13]) ∧ Sg d G, ?_, ?_⟩
      · refine ⟨_, rfl, tf, _, 1, _, rfl, rfl, .inl (.inl htf3), rfl, rfl, _, rfl, ?_⟩
        cases hb : partBad zs (max d.lo d.lo2) (nar d.hi d.hi2) (nar d.wd d.wd2) with
        | some b =>
          have er : ruleWord zs (max d.lo d.lo2) (nar d.hi d.hi2) (nar d.wd d.wd2) = Str.ofString "badrule " ++ b := by
            unfold ruleWord
            rw [hb]
          rw [decide_eq_false (by rw [er]; exact badrule_ne b)]
          exact iteF ⟨⟨_, _, rfl⟩, S3⟩
        | none =>
          have er : ruleWord zs (max d.lo d.lo2) (nar d.hi d.hi2) (nar d.wd d.wd2) = Str.ofString "" := by
            unfold ruleWord
            rw [hb]
          rw [decide_eq_true (by rw [er])]
          obtain ⟨rj, wj, vs, rfl, hRj, pj, _⟩ := told3 hb
          have hbv : partBad vs (max d.lo d.lo2) (nar d.hi d.hi2) (nar d.wd d.wd2) = none := by
            rw [part_perm pj]
            exact hb
          have hB := part_bnd hbv
          have hW := part_words hbv
          have hWx := part_words xb
          have hWy := part_words yb
          refine iteT ⟨8, rfl, by decide, by decide, for_range (lo := 0) (n := 8) (fun _ σ G => (∃ y7 y8, σ = [some (.ref a), some (.ref d.p), some (.ref d.T1), some (.ref d.T2), y4, some (.ref tf), some (.ref TD), y7, y8, none, some (.ref d.r1), some (.ref d.r2), y12, y13]) ∧ Sg d G ∧ (∃ z, G tf = some (.tup [.ref rj, z])) ∧ RuleAt G d.R rj wj vs (max d.lo d.lo2) (nar d.hi d.hi2) (nar d.wd d.wd2))
            ⟨⟨_, _, rfl⟩, S3, ⟨_, htf3⟩, hRj⟩ (fun j σ G hj h => ?_) (fun σ G h => ⟨h.1, h.2.1⟩)⟩
          obtain ⟨⟨y7, y8, rfl⟩, SG, ⟨z, hz⟩, hRG⟩ := h
          refine ⟨_, rfl, j, by rw [Int.zero_add]; rfl, by omega, fun l rs G4 s4 nl hl hrs => ⟨l, rfl, ⟨_, SqL.of hl⟩, ?_⟩⟩
          refine for_list (K := K) (a := l) (xs := rs.map V.str) (fun _ σ G => (∃ y8, σ = [some (.ref a), some (.ref d.p), some (.ref d.T1), some (.ref d.T2), y4, some (.ref tf), some (.ref TD), some (.int (0 + (j : Int))), y8, none, some (.ref d.r1), some (.ref d.r2), y12, y13]) ∧ Sg d G ∧ G tf = some (.tup [.ref rj, z]) ∧ RuleAt G d.R rj wj vs (max d.lo d.lo2) (nar d.hi d.hi2) (nar d.wd d.wd2) ∧ G l = some (.lst (rs.map V.str)))
            ⟨⟨_, rfl⟩, SG.same s4, s4 _ _ hz, hRG.same s4, hl⟩ (fun _ σ G _ h => SqL.of h.2.2.2.2) (fun m v σ G hv h => ?_) (fun σ G h => ?_)
          · obtain ⟨⟨y8, rfl⟩, S5, hz5, hR5, hl5⟩ := h
            rw [List.getElem?_map] at hv
            cases hg : rs[m]? with
            | none =>
              rw [hg] at hv
              cases hv
            | some x =>
              rw [hg] at hv
              obtain rfl : V.str x = v := Option.some.inj hv
              obtain ⟨px, lx⟩ := hrs x (List.mem_of_getElem? hg)
              have hl' : (tl x).length ≤ 1000 := by omega
              have hst : strange (tl x) = none := strange_none px
              obtain ⟨dj, hj1, _⟩ := id hR5
              refine ⟨_, rfl, tf, _, 0, _, rfl, rfl, .inl (.inl hz5), rfl, rj, dj, _, rfl, hj1, rfl, _, rfl, rj, wj, vs, _, _, _, x, rfl, hR5, hB, hW, hl', fun _ o G6 ho s6 => ?_, fun k e => by rw [hst] at e; cases e⟩
              have S6 := S5.same s6
              refine ⟨_, rfl, _, rfl, d.T1, d.t1, d.xs, d.lo, d.hi, d.wd, x, rfl, S6.hP, fun y hy => (hWx.2 y hy).1, by omega, px, hl', fun G7 s7 => ?_⟩
              have S7 := S6.same s7
              have e1 : o.isNone = (lawB d.xs d.lo d.hi d.wd (tl x) && lawB d.ys d.lo2 d.hi2 d.wd2 (tl x)) := by
                rw [fault_none px (fun y hy => (hW.2 y hy).1) hB.l0 hB.h0 ho]
                exact law_both (pj.trans zp) _ _ _ _ _ _ _
              have fin : ∀ G8, Same G7 G8 → (∃ y8, [some (V.ref a), some (.ref d.p), some (.ref d.T1), some (.ref d.T2), y4, some (.ref tf), some (.ref TD), some (.int (0 + (j : Int))), some (.str x), none, some (.ref d.r1), some (.ref d.r2), y12, y13] = [some (V.ref a), some (.ref d.p), some (.ref d.T1), some (.ref d.T2), y4, some (.ref tf), some (.ref TD), some (.int (0 + (j : Int))), y8, none, some (.ref d.r1), some (.ref d.r2), y12, y13]) ∧ Sg d G8 ∧ G8 tf = some (.tup [.ref rj, z]) ∧ RuleAt G8 d.R rj wj vs (max d.lo d.lo2) (nar d.hi d.hi2) (nar d.wd d.wd2) ∧ G8 l = some (.lst (rs.map V.str)) := fun G8 s8 =>
                ⟨⟨_, rfl⟩, S7.same s8, ((s6.trans s7).trans s8) _ _ hz5, hR5.same ((s6.trans s7).trans s8), ((s6.trans s7).trans s8) _ _ hl5⟩
              cases hlx : lawB d.xs d.lo d.hi d.wd (tl x) with
              | false =>
                rw [hlx, Bool.false_and] at e1
                refine ⟨_, rfl, iteF ⟨rfl, _, rfl, ?_⟩⟩
                rw [show decide ((fun o : Option Int => V.bl o.isNone) o = V.bl false) = true from decide_eq_true (by show V.bl o.isNone = _; rw [e1])]
                exact iteF (fin G7 (Same.refl G7))
              | true =>
                rw [hlx, Bool.true_and] at e1
                refine ⟨_, rfl, iteT ⟨_, rfl, _, rfl, d.T2, d.t2, d.ys, d.lo2, d.hi2, d.wd2, x, rfl, S7.hP2, fun y hy => (hWy.2 y hy).1, by omega, px, hl', fun G8 s8 => ⟨rfl, _, rfl, ?_⟩⟩⟩
                rw [show decide ((fun o : Option Int => V.bl o.isNone) o = V.bl (lawB d.ys d.lo2 d.hi2 d.wd2 (tl x))) = true from decide_eq_true (by show V.bl o.isNone = _; rw [e1])]
                exact iteF (fin G8 s8)
          · obtain ⟨⟨y8, rfl⟩, S5, hz5, hR5, hl5⟩ := h
            exact ⟨⟨_, _, rfl⟩, S5, ⟨z, hz5⟩, hR5⟩
      rintro _ G4 ⟨⟨y7, y8, rfl⟩, S4⟩
      refine ⟨_, rfl, _, rfl, d.r1, d.w1, d.T1, d.t1, d.xs, d.xs, d.lo, d.hi, d.wd, rfl, S4.hR, List.Perm.refl _, xsr, S4.hP, by omega, fun G5 s5 => ⟨_, rfl, iteT ?_⟩⟩
      have S5 := S4.same s5
      exact ⟨_, rfl, _, rfl, d.r2, d.w2, d.T2, d.t2, d.ys, d.ys, d.lo2, d.hi2, d.wd2, rfl, S5.hR2, List.Perm.refl _, ysr, S5.hP2, by omega, fun G6 _ => q G6⟩
end
end K05

set_option Elab.async false
set_option linter.all false
set_option maxRecDepth 100000
set_option maxHeartbeats 4000000
namespace K05
open PySem PySem.Spec PyProof.Rows L2 Pw TL
section
variable {w : World} {K : PySem.W.Frag} {mg : Str → Option Value} {base : Heap}
theorem small_log {i : Nat} (h : i ≤ 100000) : (i : Int).natAbs.log2 < 1920 := by
  rw [Int.natAbs_natCast]
  by_cases h0 : i = 0
  · subst h0
    decide
  · exact (Nat.log2_lt h0).mpr (Nat.lt_of_le_of_lt h (Nat.lt_of_lt_of_le (by decide : 100000 < 2 ^ 17) (Nat.pow_le_pow_right (by decide) (by decide))))
/-! BadRow's __init__ -/
abbrev sI1 : Stmt := inClass (topS 2) 0
theorem err_row {C fI cc cda : Addr} {kV doc pm ct oc : Value} {an od : Option Addr} {osl : Array (Option Value)} (T : SupC PySem.Challenge.pw_pulsewright_k05_rules_with_more_and_less K mg C fI cc cda "at")
    (lk : K.lookup fI = some ⟨oc, od, .func (PySem.W.ksFn "__init__" "BadRow.__init__" (defArgs sI1) (defBody sI1) (defScope sI1) .none kV doc pm an (.ref cda) ct cc), osl⟩) (hcd : PySem.W.codeIn K (.ref cda) "BadRow.__init__" = true)
    (gC : mg "BadRow" = some (.ref C)) (iC : PySem.W.findIn K (.ref C) "__init__" = some (some (.ref fI))) (tI : PySem.W.typeIn K (.ref fI) = some (.type "function")) :
    ErrOk PySem.Challenge.pw_pulsewright_k05_rules_with_more_and_less w K mg base "BadRow" "at" C okInt := by
  refine ⟨T.oex, gC, fI, _, fn_sup (k := 0) (by decide) (by decide) (by decide) (by decide) (by decide) T rfl lk hcd (fun X hN hS => ?_) (fun env => rfl), Binds.all (fun us hl => match us, hl with | [_, _], _ => rfl), iC, tI⟩
  have h1 : X.N[1]? = some (Str.ofString "at") := by
    rw [hN]
    rfl
  have h2 : Vis X.env.scope (Str.ofString "at") := by
    rw [hS]
    exact .inl rfl
  refine ⟨_, pe_joined (PJ.cons pe_str (PJ.cons (pe_fmt (pe_var (i := 1) h1 h2)) PJ.nil)), fun a v H Q hv hq => ?_⟩
  obtain ⟨i, rfl, hi⟩ := hv
  refine ⟨_, rfl, by decide, _, rfl, .inr ⟨(i : Int), rfl, small_log hi, _, rfl, ?_, hq _⟩⟩
  rw [len_tl, tl_append, List.length_append, ← len_tl, ← len_tl]
  exact Nat.le_trans (Nat.add_le_add (by decide : _ ≤ 40) (int_text_len_1921 (small_log hi))) (by decide)
/-! BadRule's __init__ -/
abbrev sI2 : Stmt := inClass (topS 3) 0
theorem err_rule {C fI cc cda : Addr} {kV doc pm ct oc : Value} {an od : Option Addr} {osl : Array (Option Value)} (T : SupC PySem.Challenge.pw_pulsewright_k05_rules_with_more_and_less K mg C fI cc cda "part")
    (lk : K.lookup fI = some ⟨oc, od, .func (PySem.W.ksFn "__init__" "BadRule.__init__" (defArgs sI2) (defBody sI2) (defScope sI2) .none kV doc pm an (.ref cda) ct cc), osl⟩) (hcd : PySem.W.codeIn K (.ref cda) "BadRule.__init__" = true)
    (gC : mg "BadRule" = some (.ref C)) (iC : PySem.W.findIn K (.ref C) "__init__" = some (some (.ref fI))) (tI : PySem.W.typeIn K (.ref fI) = some (.type "function")) :
    ErrOk PySem.Challenge.pw_pulsewright_k05_rules_with_more_and_less w K mg base "BadRule" "part" C okStr := by
  refine ⟨T.oex, gC, fI, _, fn_sup (k := 0) (by decide) (by decide) (by decide) (by decide) (by decide) T rfl lk hcd (fun X hN hS => ?_) (fun env => rfl), Binds.all (fun us hl => match us, hl with | [_, _], _ => rfl), iC, tI⟩
  have h1 : X.N[1]? = some (Str.ofString "part") := by
    rw [hN]
    rfl
  have h2 : Vis X.env.scope (Str.ofString "part") := by
    rw [hS]
    exact .inl rfl
  refine ⟨_, pe_joined (PJ.cons pe_str (PJ.cons (pe_fmt (pe_var (i := 1) h1 h2)) PJ.nil)), fun a v H Q hv hq => ?_⟩
  obtain ⟨s, rfl, hs⟩ := hv
  refine ⟨_, rfl, by decide, _, rfl, .inl ⟨s, rfl, by rw [len_tl]; exact Nat.le_trans hs (by decide), _, rfl, ?_, hq _⟩⟩
  rw [len_tl, tl_append, List.length_append, ← len_tl]
  exact Nat.le_trans (Nat.add_le_add (by decide : _ ≤ 40) hs) (by decide)
theorem exm_of {K : PySem.W.Frag} {S c : Addr} {b : Bool} (h1 : PySem.W.subIn K (.ref c) (.type "BaseException") = some true) (h2 : PySem.W.isClsIn K c = true) (h3 : PySem.W.typeIn K (.ref c) = some (.type "type")) (h4 : PySem.W.subIn K (.ref S) (.ref c) = some b) : PySem.W.exmOne K (.ref S) (.ref c) = some b := by
  have a1 : (PySem.W.subIn K (.ref c) (.type "BaseException") == some true) = true := by rw [h1] <;> rfl
  have a2 : ((PySem.W.clsIn K c).isSome && PySem.W.typeIn K (.ref c) == some (.type "type")) = true := by
    have a3 : (PySem.W.clsIn K c).isSome = true := h2
    rw [a3, h3] <;> rfl
  unfold PySem.W.exmOne
  first
    | (rw [if_pos a1]; show (if ((PySem.W.clsIn K c).isSome && PySem.W.typeIn K (.ref c) == some (.type "type")) = true then PySem.W.subIn K (.ref S) (.ref c) else none) = some b; rw [if_pos a2]; exact h4)
    | simp [a1, a2, h4]
end
theorem all_mk {w : World} {K : PySem.W.Frag} {h : Heap} {mg : Str → Option Value} {fa : Addr} (X : K.In h) (G : h.Ns mainGlobals mg) (hfa : mg "law" = some (.ref fa))
    {fFS fCR fSA fIW fAW fCP fEF fEB fNA fOP fPU fNU fLK fRO fBA fSU fLA fWD fWS fPA fRL fWH fOR fTX fFA fRU fOD fSR fJN fCL fHE fLW fMW fML fMH fMS fBP fLT fFT fMB fFR fBD fJO fRI C fI cc cda C2 gI dc dda c Pt R Td C3 C4 C5 C6 C7 C8 : Addr}
    {odFS anFS odCR anCR odSA anSA odIW anIW odAW anAW odCP anCP odEF anEF odEB anEB odNA anNA odOP anOP odPU anPU odNU anNU odLK anLK odRO anRO odBA anBA odSU anSU odLA anLA odWD anWD odWS anWS odPA anPA odRL anRL odWH anWH odOR anOR odTX anTX odFA anFA odRU anRU odOD anOD odSR anSR odJN anJN odCL anCL odHE anHE odLW anLW odMW anMW odML anML odMH anMH odMS anMS odBP anBP odLT anLT odFT anFT odMB anMB odFR anFR odBD anBD odJO anJO odRI anRI odI anI cdd cld dd odJ anJ ddd dld ee odT : Option Addr} {slFS slCR slSA slIW slAW slCP slEF slEB slNA slOP slPU slNU slLK slRO slBA slSU slLA slWD slWS slPA slRL slWH slOR slTX slFA slRU slOD slSR slJN slCL slHE slLW slMW slML slMH slMS slBP slLT slFT slMB slFR slBD slJO slRI slI ccs csl slJ dcs dsl slT : Array (Option Value)}
    {ocFS kVFS dcFS pmFS ctFS ocCR kVCR dcCR pmCR ctCR ocSA kVSA dcSA pmSA ctSA ocIW kVIW dcIW pmIW ctIW ocAW kVAW dcAW pmAW ctAW ocCP kVCP dcCP pmCP ctCP ocEF kVEF dcEF pmEF ctEF ocEB kVEB dcEB pmEB ctEB ocNA kVNA dcNA pmNA ctNA ocOP kVOP dcOP pmOP ctOP ocPU kVPU dcPU pmPU ctPU ocNU kVNU dcNU pmNU ctNU ocLK kVLK dcLK pmLK ctLK ocRO kVRO dcRO pmRO ctRO ocBA kVBA dcBA pmBA ctBA ocSU kVSU dcSU pmSU ctSU ocLA kVLA dcLA pmLA ctLA ocWD kVWD dcWD pmWD ctWD ocWS kVWS dcWS pmWS ctWS ocPA kVPA dcPA pmPA ctPA ocRL kVRL dcRL pmRL ctRL ocWH kVWH dcWH pmWH ctWH ocOR kVOR dcOR pmOR ctOR ocTX kVTX dcTX pmTX ctTX ocFA kVFA dcFA pmFA ctFA ocRU kVRU dcRU pmRU ctRU ocOD kVOD dcOD pmOD ctOD ocSR kVSR dcSR pmSR ctSR ocJN kVJN dcJN pmJN ctJN ocCL kVCL dcCL pmCL ctCL ocHE kVHE dcHE pmHE ctHE ocLW kVLW dcLW pmLW ctLW ocMW kVMW dcMW pmMW ctMW ocML kVML dcML pmML ctML ocMH kVMH dcMH pmMH ctMH ocMS kVMS dcMS pmMS ctMS ocBP kVBP dcBP pmBP ctBP ocLT kVLT dcLT pmLT ctLT ocFT kVFT dcFT pmFT ctFT ocMB kVMB dcMB pmMB ctMB ocFR kVFR dcFR pmFR ctFR ocBD kVBD dcBD pmBD ctBD ocJO kVJO dcJO pmJO ctJO ocRI kVRI dcRI pmRI ctRI cdFS cdCR cdSA cdIW cdAW cdCP cdEF cdEB cdNA cdOP cdPU cdNU cdLK cdRO cdBA cdSU cdLA cdWD cdWS cdPA cdRL cdWH cdOR cdTX cdFA cdRU cdOD cdSR cdJN cdCL cdHE cdMW cdML cdMH cdMS cdBP cdLT cdFT cdMB cdFR cdBD cdJO cdRI ocI kVI dcI pmI ctI ccl cl ocJ kVJ dcJ pmJ ctJ dcl dl ocT : Value}
    {nm q file : Str} {N : Addr} {bs bm sub : List Value} {sn : List Str} {ab : Bool} {col : Option Bool} {k0 k1 k2 k3 k5 : Option Value} {vsc : Array Value} {nmZ qZ fileZ : Str} {NZ : Addr} {bsZ bmZ subZ : List Value} {snZ : List Str} {abZ : Bool} {colZ : Option Bool} {k0Z k1Z k2Z k3Z k5Z : Option Value} {vsd : Array Value} {tf tfZ tk0 tk1 tk2 tk3 tk4 tk5 : Tok} {nT : Nat}
    (aFS : PySem.W.nsIn K mainGlobals "first_stranger" = some (some (.ref fFS)))
    (lFS : K.lookup fFS = some ⟨ocFS, odFS, .func (PySem.W.fnOf "first_stranger" "first_stranger" (defArgs sFS) (defBody sFS) (defScope sFS) .none kVFS dcFS pmFS anFS cdFS ctFS), slFS⟩)
    (cFS : PySem.W.codeIn K cdFS "first_stranger" = true)
    (kFS : PySem.W.keepIn K (.ref fFS) = true)
    (aCR : PySem.W.nsIn K mainGlobals "check_row" = some (some (.ref fCR)))
    (lCR : K.lookup fCR = some ⟨ocCR, odCR, .func (PySem.W.fnOf "check_row" "check_row" (defArgs sCR) (defBody sCR) (defScope sCR) .none kVCR dcCR pmCR anCR cdCR ctCR), slCR⟩)
    (cCR : PySem.W.codeIn K cdCR "check_row" = true)
    (kCR : PySem.W.keepIn K (.ref fCR) = true)
    (aSA : PySem.W.nsIn K mainGlobals "swings_along" = some (some (.ref fSA)))
    (lSA : K.lookup fSA = some ⟨ocSA, odSA, .func (PySem.W.fnOf "swings_along" "swings_along" (defArgs sSA) (defBody sSA) (defScope sSA) .none kVSA dcSA pmSA anSA cdSA ctSA), slSA⟩)
    (cSA : PySem.W.codeIn K cdSA "swings_along" = true)
    (kSA : PySem.W.keepIn K (.ref fSA) = true)
    (aIW : PySem.W.nsIn K mainGlobals "is_word" = some (some (.ref fIW)))
    (lIW : K.lookup fIW = some ⟨ocIW, odIW, .func (PySem.W.fnOf "is_word" "is_word" (defArgs sIW) (defBody sIW) (defScope sIW) .none kVIW dcIW pmIW anIW cdIW ctIW), slIW⟩)
    (cIW : PySem.W.codeIn K cdIW "is_word" = true)
    (kIW : PySem.W.keepIn K (.ref fIW) = true)
    (aAW : PySem.W.nsIn K mainGlobals "are_words" = some (some (.ref fAW)))
    (lAW : K.lookup fAW = some ⟨ocAW, odAW, .func (PySem.W.fnOf "are_words" "are_words" (defArgs sAW) (defBody sAW) (defScope sAW) .none kVAW dcAW pmAW anAW cdAW ctAW), slAW⟩)
    (cAW : PySem.W.codeIn K cdAW "are_words" = true)
    (kAW : PySem.W.keepIn K (.ref fAW) = true)
    (aCP : PySem.W.nsIn K mainGlobals "check_parts" = some (some (.ref fCP)))
    (lCP : K.lookup fCP = some ⟨ocCP, odCP, .func (PySem.W.fnOf "check_parts" "check_parts" (defArgs sCP) (defBody sCP) (defScope sCP) .none kVCP dcCP pmCP anCP cdCP ctCP), slCP⟩)
    (cCP : PySem.W.codeIn K cdCP "check_parts" = true)
    (kCP : PySem.W.keepIn K (.ref fCP) = true)
    (aEF : PySem.W.nsIn K mainGlobals "end_of_first" = some (some (.ref fEF)))
    (lEF : K.lookup fEF = some ⟨ocEF, odEF, .func (PySem.W.fnOf "end_of_first" "end_of_first" (defArgs sEF) (defBody sEF) (defScope sEF) .none kVEF dcEF pmEF anEF cdEF ctEF), slEF⟩)
    (cEF : PySem.W.codeIn K cdEF "end_of_first" = true)
    (kEF : PySem.W.keepIn K (.ref fEF) = true)
    (aEB : PySem.W.nsIn K mainGlobals "end_beyond_span" = some (some (.ref fEB)))
    (lEB : K.lookup fEB = some ⟨ocEB, odEB, .func (PySem.W.fnOf "end_beyond_span" "end_beyond_span" (defArgs sEB) (defBody sEB) (defScope sEB) .none kVEB dcEB pmEB anEB cdEB ctEB), slEB⟩)
    (cEB : PySem.W.codeIn K cdEB "end_beyond_span" = true)
    (kEB : PySem.W.keepIn K (.ref fEB) = true)
    (aNA : PySem.W.nsIn K mainGlobals "narrower" = some (some (.ref fNA)))
    (lNA : K.lookup fNA = some ⟨ocNA, odNA, .func (PySem.W.fnOf "narrower" "narrower" (defArgs sNA) (defBody sNA) (defScope sNA) .none kVNA dcNA pmNA anNA cdNA ctNA), slNA⟩)
    (cNA : PySem.W.codeIn K cdNA "narrower" = true)
    (kNA : PySem.W.keepIn K (.ref fNA) = true)
    (aOP : PySem.W.nsIn K mainGlobals "_law_open" = some (some (.ref fOP)))
    (lOP : K.lookup fOP = some ⟨ocOP, odOP, .func (PySem.W.fnOf "_law_open" "_law_open" (defArgs sOP) (defBody sOP) (defScope sOP) .none kVOP dcOP pmOP anOP cdOP ctOP), slOP⟩)
    (cOP : PySem.W.codeIn K cdOP "_law_open" = true)
    (kOP : PySem.W.keepIn K (.ref fOP) = true)
    (aPU : PySem.W.nsIn K mainGlobals "_law_pull" = some (some (.ref fPU)))
    (lPU : K.lookup fPU = some ⟨ocPU, odPU, .func (PySem.W.fnOf "_law_pull" "_law_pull" (defArgs sPU) (defBody sPU) (defScope sPU) .none kVPU dcPU pmPU anPU cdPU ctPU), slPU⟩)
    (cPU : PySem.W.codeIn K cdPU "_law_pull" = true)
    (kPU : PySem.W.keepIn K (.ref fPU) = true)
    (aNU : PySem.W.nsIn K mainGlobals "_law_num" = some (some (.ref fNU)))
    (lNU : K.lookup fNU = some ⟨ocNU, odNU, .func (PySem.W.fnOf "_law_num" "_law_num" (defArgs sNU) (defBody sNU) (defScope sNU) .none kVNU dcNU pmNU anNU cdNU ctNU), slNU⟩)
    (cNU : PySem.W.codeIn K cdNU "_law_num" = true)
    (kNU : PySem.W.keepIn K (.ref fNU) = true)
    (aLK : PySem.W.nsIn K mainGlobals "_law_like" = some (some (.ref fLK)))
    (lLK : K.lookup fLK = some ⟨ocLK, odLK, .func (PySem.W.fnOf "_law_like" "_law_like" (defArgs sLK) (defBody sLK) (defScope sLK) .none kVLK dcLK pmLK anLK cdLK ctLK), slLK⟩)
    (cLK : PySem.W.codeIn K cdLK "_law_like" = true)
    (kLK : PySem.W.keepIn K (.ref fLK) = true)
    (aRO : PySem.W.nsIn K mainGlobals "_law_row" = some (some (.ref fRO)))
    (lRO : K.lookup fRO = some ⟨ocRO, odRO, .func (PySem.W.fnOf "_law_row" "_law_row" (defArgs sRO) (defBody sRO) (defScope sRO) .none kVRO dcRO pmRO anRO cdRO ctRO), slRO⟩)
    (cRO : PySem.W.codeIn K cdRO "_law_row" = true)
    (kRO : PySem.W.keepIn K (.ref fRO) = true)
    (aBA : PySem.W.nsIn K mainGlobals "_law_bad_at" = some (some (.ref fBA)))
    (lBA : K.lookup fBA = some ⟨ocBA, odBA, .func (PySem.W.fnOf "_law_bad_at" "_law_bad_at" (defArgs sBA) (defBody sBA) (defScope sBA) .none kVBA dcBA pmBA anBA cdBA ctBA), slBA⟩)
    (cBA : PySem.W.codeIn K cdBA "_law_bad_at" = true)
    (kBA : PySem.W.keepIn K (.ref fBA) = true)
    (aSU : PySem.W.nsIn K mainGlobals "_law_sums" = some (some (.ref fSU)))
    (lSU : K.lookup fSU = some ⟨ocSU, odSU, .func (PySem.W.fnOf "_law_sums" "_law_sums" (defArgs sSU) (defBody sSU) (defScope sSU) .none kVSU dcSU pmSU anSU cdSU ctSU), slSU⟩)
    (cSU : PySem.W.codeIn K cdSU "_law_sums" = true)
    (kSU : PySem.W.keepIn K (.ref fSU) = true)
    (aLA : PySem.W.nsIn K mainGlobals "_law_lawful" = some (some (.ref fLA)))
    (lLA : K.lookup fLA = some ⟨ocLA, odLA, .func (PySem.W.fnOf "_law_lawful" "_law_lawful" (defArgs sLA) (defBody sLA) (defScope sLA) .none kVLA dcLA pmLA anLA cdLA ctLA), slLA⟩)
    (cLA : PySem.W.codeIn K cdLA "_law_lawful" = true)
    (kLA : PySem.W.keepIn K (.ref fLA) = true)
    (aWD : PySem.W.nsIn K mainGlobals "_law_word" = some (some (.ref fWD)))
    (lWD : K.lookup fWD = some ⟨ocWD, odWD, .func (PySem.W.fnOf "_law_word" "_law_word" (defArgs sWD) (defBody sWD) (defScope sWD) .none kVWD dcWD pmWD anWD cdWD ctWD), slWD⟩)
    (cWD : PySem.W.codeIn K cdWD "_law_word" = true)
    (kWD : PySem.W.keepIn K (.ref fWD) = true)
    (aWS : PySem.W.nsIn K mainGlobals "_law_words" = some (some (.ref fWS)))
    (lWS : K.lookup fWS = some ⟨ocWS, odWS, .func (PySem.W.fnOf "_law_words" "_law_words" (defArgs sWS) (defBody sWS) (defScope sWS) .none kVWS dcWS pmWS anWS cdWS ctWS), slWS⟩)
    (cWS : PySem.W.codeIn K cdWS "_law_words" = true)
    (kWS : PySem.W.keepIn K (.ref fWS) = true)
    (aPA : PySem.W.nsIn K mainGlobals "_law_parts" = some (some (.ref fPA)))
    (lPA : K.lookup fPA = some ⟨ocPA, odPA, .func (PySem.W.fnOf "_law_parts" "_law_parts" (defArgs sPA) (defBody sPA) (defScope sPA) .none kVPA dcPA pmPA anPA cdPA ctPA), slPA⟩)
    (cPA : PySem.W.codeIn K cdPA "_law_parts" = true)
    (kPA : PySem.W.keepIn K (.ref fPA) = true)
    (aRL : PySem.W.nsIn K mainGlobals "_law_rule" = some (some (.ref fRL)))
    (lRL : K.lookup fRL = some ⟨ocRL, odRL, .func (PySem.W.fnOf "_law_rule" "_law_rule" (defArgs sRL) (defBody sRL) (defScope sRL) .none kVRL dcRL pmRL anRL cdRL ctRL), slRL⟩)
    (cRL : PySem.W.codeIn K cdRL "_law_rule" = true)
    (kRL : PySem.W.keepIn K (.ref fRL) = true)
    (aWH : PySem.W.nsIn K mainGlobals "_law_why" = some (some (.ref fWH)))
    (lWH : K.lookup fWH = some ⟨ocWH, odWH, .func (PySem.W.fnOf "_law_why" "_law_why" (defArgs sWH) (defBody sWH) (defScope sWH) .none kVWH dcWH pmWH anWH cdWH ctWH), slWH⟩)
    (cWH : PySem.W.codeIn K cdWH "_law_why" = true)
    (kWH : PySem.W.keepIn K (.ref fWH) = true)
    (aOR : PySem.W.nsIn K mainGlobals "_law_odd_row" = some (some (.ref fOR)))
    (lOR : K.lookup fOR = some ⟨ocOR, odOR, .func (PySem.W.fnOf "_law_odd_row" "_law_odd_row" (defArgs sOR) (defBody sOR) (defScope sOR) .none kVOR dcOR pmOR anOR cdOR ctOR), slOR⟩)
    (cOR : PySem.W.codeIn K cdOR "_law_odd_row" = true)
    (kOR : PySem.W.keepIn K (.ref fOR) = true)
    (aTX : PySem.W.nsIn K mainGlobals "_law_texts" = some (some (.ref fTX)))
    (lTX : K.lookup fTX = some ⟨ocTX, odTX, .func (PySem.W.fnOf "_law_texts" "_law_texts" (defArgs sTX) (defBody sTX) (defScope sTX) .none kVTX dcTX pmTX anTX cdTX ctTX), slTX⟩)
    (cTX : PySem.W.codeIn K cdTX "_law_texts" = true)
    (kTX : PySem.W.keepIn K (.ref fTX) = true)
    (aFA : PySem.W.nsIn K mainGlobals "_law_far" = some (some (.ref fFA)))
    (lFA : K.lookup fFA = some ⟨ocFA, odFA, .func (PySem.W.fnOf "_law_far" "_law_far" (defArgs sFA) (defBody sFA) (defScope sFA) .none kVFA dcFA pmFA anFA cdFA ctFA), slFA⟩)
    (cFA : PySem.W.codeIn K cdFA "_law_far" = true)
    (kFA : PySem.W.keepIn K (.ref fFA) = true)
    (aRU : PySem.W.nsIn K mainGlobals "_law_rule_word" = some (some (.ref fRU)))
    (lRU : K.lookup fRU = some ⟨ocRU, odRU, .func (PySem.W.fnOf "_law_rule_word" "_law_rule_word" (defArgs sRU) (defBody sRU) (defScope sRU) .none kVRU dcRU pmRU anRU cdRU ctRU), slRU⟩)
    (cRU : PySem.W.codeIn K cdRU "_law_rule_word" = true)
    (kRU : PySem.W.keepIn K (.ref fRU) = true)
    (aOD : PySem.W.nsIn K mainGlobals "_law_odd_parts" = some (some (.ref fOD)))
    (lOD : K.lookup fOD = some ⟨ocOD, odOD, .func (PySem.W.fnOf "_law_odd_parts" "_law_odd_parts" (defArgs sOD) (defBody sOD) (defScope sOD) .none kVOD dcOD pmOD anOD cdOD ctOD), slOD⟩)
    (cOD : PySem.W.codeIn K cdOD "_law_odd_parts" = true)
    (kOD : PySem.W.keepIn K (.ref fOD) = true)
    (aSR : PySem.W.nsIn K mainGlobals "_law_same_rule" = some (some (.ref fSR)))
    (lSR : K.lookup fSR = some ⟨ocSR, odSR, .func (PySem.W.fnOf "_law_same_rule" "_law_same_rule" (defArgs sSR) (defBody sSR) (defScope sSR) .none kVSR dcSR pmSR anSR cdSR ctSR), slSR⟩)
    (cSR : PySem.W.codeIn K cdSR "_law_same_rule" = true)
    (kSR : PySem.W.keepIn K (.ref fSR) = true)
    (aJN : PySem.W.nsIn K mainGlobals "_law_joined" = some (some (.ref fJN)))
    (lJN : K.lookup fJN = some ⟨ocJN, odJN, .func (PySem.W.fnOf "_law_joined" "_law_joined" (defArgs sJN) (defBody sJN) (defScope sJN) .none kVJN dcJN pmJN anJN cdJN ctJN), slJN⟩)
    (cJN : PySem.W.codeIn K cdJN "_law_joined" = true)
    (kJN : PySem.W.keepIn K (.ref fJN) = true)
    (aCL : PySem.W.nsIn K mainGlobals "_law_clean" = some (some (.ref fCL)))
    (lCL : K.lookup fCL = some ⟨ocCL, odCL, .func (PySem.W.fnOf "_law_clean" "_law_clean" (defArgs sCL) (defBody sCL) (defScope sCL) .none kVCL dcCL pmCL anCL cdCL ctCL), slCL⟩)
    (cCL : PySem.W.codeIn K cdCL "_law_clean" = true)
    (kCL : PySem.W.keepIn K (.ref fCL) = true)
    (aHE : PySem.W.nsIn K mainGlobals "_law_held" = some (some (.ref fHE)))
    (lHE : K.lookup fHE = some ⟨ocHE, odHE, .func (PySem.W.fnOf "_law_held" "_law_held" (defArgs sHE) (defBody sHE) (defScope sHE) .none kVHE dcHE pmHE anHE cdHE ctHE), slHE⟩)
    (cHE : PySem.W.codeIn K cdHE "_law_held" = true)
    (kHE : PySem.W.keepIn K (.ref fHE) = true)
    (aLW : PySem.W.nsIn K mainGlobals "law" = some (some (.ref fLW)))
    (lLW : K.lookup fLW = some ⟨ocLW, odLW, .func (PySem.W.fnOf "law" "law" (defArgs sLW) (defBody sLW) (defScope sLW) .none kVLW dcLW pmLW anLW (.ref c) ctLW), slLW⟩)
    (cLW : PySem.W.codeIn K (.ref c) "law" = true)
    (kLW : PySem.W.keepIn K (.ref fLW) = true)
    (z_isi : PySem.W.nsIn K mainGlobals "isinstance" = some none)
    (z_int : PySem.W.nsIn K mainGlobals "int" = some none)
    (z_bool : PySem.W.nsIn K mainGlobals "bool" = some none)
    (z_str : PySem.W.nsIn K mainGlobals "str" = some none)
    (z_tup : PySem.W.nsIn K mainGlobals "tuple" = some none)
    (z_lst : PySem.W.nsIn K mainGlobals "list" = some none)
    (z_len : PySem.W.nsIn K mainGlobals "len" = some none)
    (z_all : PySem.W.nsIn K mainGlobals "all" = some none)
    (z_rng : PySem.W.nsIn K mainGlobals "range" = some none)
    (z_max : PySem.W.nsIn K mainGlobals "max" = some none)
    (z_min : PySem.W.nsIn K mainGlobals "min" = some none)
    (z_abs : PySem.W.nsIn K mainGlobals "abs" = some none)
    (z_enu : PySem.W.nsIn K mainGlobals "enumerate" = some none)
    (z_sup : PySem.W.nsIn K mainGlobals "super" = some none)
    (z_set : PySem.W.nsIn K mainGlobals "set" = some none)
    (z_srt : PySem.W.nsIn K mainGlobals "sorted" = some none)
    (z_any : PySem.W.nsIn K mainGlobals "any" = some none)
    (n1 : PySem.W.nsIn K mainGlobals "MOST_WORDS" = some (some (.int 6 tk1)))
    (n2 : PySem.W.nsIn K mainGlobals "LONGEST_WORD" = some (some (.int 5 tk2)))
    (n3 : PySem.W.nsIn K mainGlobals "GREATEST_LOW" = some (some (.int 3 tk3)))
    (n4 : PySem.W.nsIn K mainGlobals "GREATEST_HIGH" = some (some (.int 7 tk4)))
    (n5 : PySem.W.nsIn K mainGlobals "GREATEST_SPAN" = some (some (.int 4 tk5)))
    (aR : PySem.W.nsIn K mainGlobals "Rule" = some (some (.ref R)))
    (f_MW : PySem.W.findIn K (.ref R) "words" = some (some (.ref fMW)))
    (lMW : K.lookup fMW = some ⟨ocMW, odMW, .func (PySem.W.fnOf "words" "Rule.words" (defArgs sMW) (defBody sMW) (defScope sMW) .none kVMW dcMW pmMW anMW cdMW ctMW), slMW⟩)
    (cMW : PySem.W.codeIn K cdMW "Rule.words" = true)
    (i_MW : PySem.W.isFn K (.ref fMW) = true)
    (kMW : PySem.W.keepIn K (.ref fMW) = true)
    (f_ML : PySem.W.findIn K (.ref R) "low" = some (some (.ref fML)))
    (lML : K.lookup fML = some ⟨ocML, odML, .func (PySem.W.fnOf "low" "Rule.low" (defArgs sML) (defBody sML) (defScope sML) .none kVML dcML pmML anML cdML ctML), slML⟩)
    (cML : PySem.W.codeIn K cdML "Rule.low" = true)
    (i_ML : PySem.W.isFn K (.ref fML) = true)
    (kML : PySem.W.keepIn K (.ref fML) = true)
    (f_MH : PySem.W.findIn K (.ref R) "high" = some (some (.ref fMH)))
    (lMH : K.lookup fMH = some ⟨ocMH, odMH, .func (PySem.W.fnOf "high" "Rule.high" (defArgs sMH) (defBody sMH) (defScope sMH) .none kVMH dcMH pmMH anMH cdMH ctMH), slMH⟩)
    (cMH : PySem.W.codeIn K cdMH "Rule.high" = true)
    (i_MH : PySem.W.isFn K (.ref fMH) = true)
    (kMH : PySem.W.keepIn K (.ref fMH) = true)
    (f_MS : PySem.W.findIn K (.ref R) "span" = some (some (.ref fMS)))
    (lMS : K.lookup fMS = some ⟨ocMS, odMS, .func (PySem.W.fnOf "span" "Rule.span" (defArgs sMS) (defBody sMS) (defScope sMS) .none kVMS dcMS pmMS anMS cdMS ctMS), slMS⟩)
    (cMS : PySem.W.codeIn K cdMS "Rule.span" = true)
    (i_MS : PySem.W.isFn K (.ref fMS) = true)
    (kMS : PySem.W.keepIn K (.ref fMS) = true)
    (f_BP : PySem.W.findIn K (.ref R) "barred_pieces" = some (some (.ref fBP)))
    (lBP : K.lookup fBP = some ⟨ocBP, odBP, .func (PySem.W.fnOf "barred_pieces" "Rule.barred_pieces" (defArgs sBP) (defBody sBP) (defScope sBP) .none kVBP dcBP pmBP anBP cdBP ctBP), slBP⟩)
    (cBP : PySem.W.codeIn K cdBP "Rule.barred_pieces" = true)
    (i_BP : PySem.W.isFn K (.ref fBP) = true)
    (kBP : PySem.W.keepIn K (.ref fBP) = true)
    (f_LT : PySem.W.findIn K (.ref R) "lets" = some (some (.ref fLT)))
    (lLT : K.lookup fLT = some ⟨ocLT, odLT, .func (PySem.W.fnOf "lets" "Rule.lets" (defArgs sLT) (defBody sLT) (defScope sLT) .none kVLT dcLT pmLT anLT cdLT ctLT), slLT⟩)
    (cLT : PySem.W.codeIn K cdLT "Rule.lets" = true)
    (i_LT : PySem.W.isFn K (.ref fLT) = true)
    (kLT : PySem.W.keepIn K (.ref fLT) = true)
    (f_FT : PySem.W.findIn K (.ref R) "fault" = some (some (.ref fFT)))
    (lFT : K.lookup fFT = some ⟨ocFT, odFT, .func (PySem.W.fnOf "fault" "Rule.fault" (defArgs sFT) (defBody sFT) (defScope sFT) .none kVFT dcFT pmFT anFT cdFT ctFT), slFT⟩)
    (cFT : PySem.W.codeIn K cdFT "Rule.fault" = true)
    (i_FT : PySem.W.isFn K (.ref fFT) = true)
    (kFT : PySem.W.keepIn K (.ref fFT) = true)
    (f_MB : PySem.W.findIn K (.ref R) "barring" = some (some (.ref fMB)))
    (lMB : K.lookup fMB = some ⟨ocMB, odMB, .func (PySem.W.fnOf "barring" "Rule.barring" (defArgs sMB) (defBody sMB) (defScope sMB) .none kVMB dcMB pmMB anMB cdMB ctMB), slMB⟩)
    (cMB : PySem.W.codeIn K cdMB "Rule.barring" = true)
    (i_MB : PySem.W.isFn K (.ref fMB) = true)
    (kMB : PySem.W.keepIn K (.ref fMB) = true)
    (f_FR : PySem.W.findIn K (.ref R) "freeing" = some (some (.ref fFR)))
    (lFR : K.lookup fFR = some ⟨ocFR, odFR, .func (PySem.W.fnOf "freeing" "Rule.freeing" (defArgs sFR) (defBody sFR) (defScope sFR) .none kVFR dcFR pmFR anFR cdFR ctFR), slFR⟩)
    (cFR : PySem.W.codeIn K cdFR "Rule.freeing" = true)
    (i_FR : PySem.W.isFn K (.ref fFR) = true)
    (kFR : PySem.W.keepIn K (.ref fFR) = true)
    (f_BD : PySem.W.findIn K (.ref R) "bounded" = some (some (.ref fBD)))
    (lBD : K.lookup fBD = some ⟨ocBD, odBD, .func (PySem.W.fnOf "bounded" "Rule.bounded" (defArgs sBD) (defBody sBD) (defScope sBD) .none kVBD dcBD pmBD anBD cdBD ctBD), slBD⟩)
    (cBD : PySem.W.codeIn K cdBD "Rule.bounded" = true)
    (i_BD : PySem.W.isFn K (.ref fBD) = true)
    (kBD : PySem.W.keepIn K (.ref fBD) = true)
    (f_JO : PySem.W.findIn K (.ref R) "joined" = some (some (.ref fJO)))
    (lJO : K.lookup fJO = some ⟨ocJO, odJO, .func (PySem.W.fnOf "joined" "Rule.joined" (defArgs sJO) (defBody sJO) (defScope sJO) .none kVJO dcJO pmJO anJO cdJO ctJO), slJO⟩)
    (cJO : PySem.W.codeIn K cdJO "Rule.joined" = true)
    (i_JO : PySem.W.isFn K (.ref fJO) = true)
    (kJO : PySem.W.keepIn K (.ref fJO) = true)
    (f_RI : PySem.W.findIn K (.ref R) "__init__" = some (some (.ref fRI)))
    (lRI : K.lookup fRI = some ⟨ocRI, odRI, .func (PySem.W.fnOf "__init__" "Rule.__init__" (defArgs sRI) (defBody sRI) (defScope sRI) (.ref Td) kVRI dcRI pmRI anRI cdRI ctRI), slRI⟩)
    (cRI : PySem.W.codeIn K cdRI "Rule.__init__" = true)
    (i_RI : PySem.W.isFn K (.ref fRI) = true)
    (kRI : PySem.W.keepIn K (.ref fRI) = true)
    (lTd : K.lookup Td = some ⟨ocT, odT, .seq #[.none, .int 0 tk0, .none, .none] nT, slT⟩)
    (mkR : PySem.W.makesIn K R = true)
    (kR : PySem.W.keepIn K (.ref R) = true)
    (pgR : PySem.W.plainGet K R Str.empty = true)
    (hdR : PySem.W.hasDictIn K R = true)
    (poR : PySem.W.plainOver K R = true)
    (saR : PySem.W.findIn K (.ref R) "__setattr__" = some (some (.builtin "object.__setattr__")))
    (na1 : PySem.W.findIn K (.ref R) "barred" = some none)
    (na2 : PySem.W.findIn K (.ref R) "least_gap" = some none)
    (na3 : PySem.W.findIn K (.ref R) "most_idle" = some none)
    (na4 : PySem.W.findIn K (.ref R) "most_swing" = some none)
    (aC : PySem.W.nsIn K mainGlobals "BadRow" = some (some (.ref C)))
    (xC : K.lookup C = some (excClassObj nm q C N bs bm true sn sub ab col dd k0 k1 k2 k3 k5 "ValueError.__new__"))
    (xbC : PySem.HandSPX.refsVE bm = true)
    (saC : PySem.W.findIn K (.ref C) "__setattr__" = some (some (.builtin "object.__setattr__")))
    (iC : PySem.W.isClsIn K C = true)
    (natC : PySem.W.findIn K (.ref C) "at" = some none)
    (eC : PySem.W.subIn K (.ref C) (.type "BaseException") = some true)
    (vC : PySem.W.subIn K (.ref C) (.type "ValueError") = some true)
    (tC : PySem.W.typeIn K (.ref C) = some (.type "type"))
    (mC : PySem.W.mroIn K C (.ref C) = some true)
    (kC : PySem.W.keepIn K (.ref C) = true)
    (aIC : PySem.W.findIn K (.ref C) "__init__" = some (some (.ref fI)))
    (tIC : PySem.W.typeIn K (.ref fI) = some (.type "function"))
    (lIC : K.lookup fI = some ⟨ocI, odI, .func (PySem.W.ksFn "__init__" "BadRow.__init__" (defArgs sI1) (defBody sI1) (defScope sI1) .none kVI dcI pmI anI (.ref cda) ctI cc), slI⟩)
    (cIC : PySem.W.codeIn K (.ref cda) "BadRow.__init__" = true)
    (lcdC : K.lookup cda = some ⟨ccl, cdd, .fields vsc, ccs⟩)
    (lccC : K.lookup cc = some ⟨cl, cld, .cell (some (.ref C)), csl⟩)
    (supC : PySem.W.ks_superIn K C C "__init__" = some (some (.builtin "ValueError.__init__")))
    (vs2C : vsc[2]? = some (.str file tf))
    (filC : ((PySem.Challenge.pw_pulsewright_k05_rules_with_more_and_less.main.file : Str) == file) = true)
    (aD : PySem.W.nsIn K mainGlobals "BadRule" = some (some (.ref C2)))
    (xD : K.lookup C2 = some (excClassObj nmZ qZ C2 NZ bsZ bmZ true snZ subZ abZ colZ ee k0Z k1Z k2Z k3Z k5Z "ValueError.__new__"))
    (xbD : PySem.HandSPX.refsVE bmZ = true)
    (saD : PySem.W.findIn K (.ref C2) "__setattr__" = some (some (.builtin "object.__setattr__")))
    (gaD : PySem.W.findIn K (.ref C2) "__getattribute__" = some (some (.builtin "BaseException.__getattribute__")))
    (ggD : PySem.W.findIn K (.ref C2) "__getattr__" = some none)
    (hD : PySem.W.hasDictIn K C2 = true)
    (iD : PySem.W.isClsIn K C2 = true)
    (sD : PySem.W.subIn K (.ref C2) (.ref C2) = some true)
    (natD : PySem.W.findIn K (.ref C2) "part" = some none)
    (eD : PySem.W.subIn K (.ref C2) (.type "BaseException") = some true)
    (vD : PySem.W.subIn K (.ref C2) (.type "ValueError") = some true)
    (tD : PySem.W.typeIn K (.ref C2) = some (.type "type"))
    (mD : PySem.W.mroIn K C2 (.ref C2) = some true)
    (kD : PySem.W.keepIn K (.ref C2) = true)
    (aID : PySem.W.findIn K (.ref C2) "__init__" = some (some (.ref gI)))
    (tID : PySem.W.typeIn K (.ref gI) = some (.type "function"))
    (lID : K.lookup gI = some ⟨ocJ, odJ, .func (PySem.W.ksFn "__init__" "BadRule.__init__" (defArgs sI2) (defBody sI2) (defScope sI2) .none kVJ dcJ pmJ anJ (.ref dda) ctJ dc), slJ⟩)
    (cID : PySem.W.codeIn K (.ref dda) "BadRule.__init__" = true)
    (lcdD : K.lookup dda = some ⟨dcl, ddd, .fields vsd, dcs⟩)
    (lccD : K.lookup dc = some ⟨dl, dld, .cell (some (.ref C2)), dsl⟩)
    (supD : PySem.W.ks_superIn K C2 C2 "__init__" = some (some (.builtin "ValueError.__init__")))
    (vs2D : vsd[2]? = some (.str fileZ tfZ))
    (filD : ((PySem.Challenge.pw_pulsewright_k05_rules_with_more_and_less.main.file : Str) == fileZ) = true)
    (sDC : PySem.W.subIn K (.ref C2) (.ref C) = some false)
    (aC3 : PySem.W.nsIn K mainGlobals "BadPace" = some (some (.ref C3)))
    (aC4 : PySem.W.nsIn K mainGlobals "TooWide" = some (some (.ref C4)))
    (aC5 : PySem.W.nsIn K mainGlobals "Unlawful" = some (some (.ref C5)))
    (aC6 : PySem.W.nsIn K mainGlobals "BadLength" = some (some (.ref C6)))
    (aC7 : PySem.W.nsIn K mainGlobals "BadText" = some (some (.ref C7)))
    (aC8 : PySem.W.nsIn K mainGlobals "PulseError" = some (some (.ref C8)))
    (opq : PySem.W.nsIn K cStatics "thirdparty.any" = some none)
    (tps : (PySem.Challenge.pw_pulsewright_k05_rules_with_more_and_less.main.scope.names.lookup ("super" : Str)).isSome = false)
    (tab : h.get? Pt = some { cls := .none, data := .fields #[] })
    (nPt : K.lookup Pt = none)
    (chd : PySem.W.codeHdIn K c Pt = true)
    : LamX.LawAtS PySem.Challenge.rw_pulsewright_k05_rules_with_more_and_less w K CX0 10 63 "_law_script" mg fa h := by
  have e := hfa.symm.trans (PySem.W.mg_of X G aLW)
  cases e
  have B : BN mg := ⟨PySem.W.mg_none_of X G z_isi, PySem.W.mg_none_of X G z_int, PySem.W.mg_none_of X G z_bool, PySem.W.mg_none_of X G z_str, PySem.W.mg_none_of X G z_tup, PySem.W.mg_none_of X G z_lst, PySem.W.mg_none_of X G z_len, PySem.W.mg_none_of X G z_all, PySem.W.mg_none_of X G z_rng, PySem.W.mg_none_of X G z_max, PySem.W.mg_none_of X G z_min, PySem.W.mg_none_of X G z_abs, PySem.W.mg_none_of X G z_enu⟩
  have zset := PySem.W.mg_none_of X G z_set
  have zsrt := PySem.W.mg_none_of X G z_srt
  have N1 : Num mg "MOST_WORDS" 6 := ⟨_, PySem.W.mg_of X G n1, _, rfl⟩
  have N2 : Num mg "LONGEST_WORD" 5 := ⟨_, PySem.W.mg_of X G n2, _, rfl⟩
  have N3 : Num mg "GREATEST_LOW" 3 := ⟨_, PySem.W.mg_of X G n3, _, rfl⟩
  have N4 : Num mg "GREATEST_HIGH" 7 := ⟨_, PySem.W.mg_of X G n4, _, rfl⟩
  have N5 : Num mg "GREATEST_SPAN" 4 := ⟨_, PySem.W.mg_of X G n5, _, rfl⟩
  have FFS := fun_mk (st := sFS) lFS cFS kFS
  have FCR := fun_mk (st := sCR) lCR cCR kCR
  have FSA := fun_mk (st := sSA) lSA cSA kSA
  have FIW := fun_mk (st := sIW) lIW cIW kIW
  have FAW := fun_mk (st := sAW) lAW cAW kAW
  have FCP := fun_mk (st := sCP) lCP cCP kCP
  have FEF := fun_mk (st := sEF) lEF cEF kEF
  have FEB := fun_mk (st := sEB) lEB cEB kEB
  have FNA := fun_mk (st := sNA) lNA cNA kNA
  have FOP := fun_mk (st := sOP) lOP cOP kOP
  have FPU := fun_mk (st := sPU) lPU cPU kPU
  have FNU := fun_mk (st := sNU) lNU cNU kNU
  have FLK := fun_mk (st := sLK) lLK cLK kLK
  have FRO := fun_mk (st := sRO) lRO cRO kRO
  have FBA := fun_mk (st := sBA) lBA cBA kBA
  have FSU := fun_mk (st := sSU) lSU cSU kSU
  have FLA := fun_mk (st := sLA) lLA cLA kLA
  have FWD := fun_mk (st := sWD) lWD cWD kWD
  have FWS := fun_mk (st := sWS) lWS cWS kWS
  have FPA := fun_mk (st := sPA) lPA cPA kPA
  have FRL := fun_mk (st := sRL) lRL cRL kRL
  have FOR := fun_mk (st := sOR) lOR cOR kOR
  have FTX := fun_mk (st := sTX) lTX cTX kTX
  have FFA := fun_mk (st := sFA) lFA cFA kFA
  have FRU := fun_mk (st := sRU) lRU cRU kRU
  have FOD := fun_mk (st := sOD) lOD cOD kOD
  have FSR := fun_mk (st := sSR) lSR cSR kSR
  have FJN := fun_mk (st := sJN) lJN cJN kJN
  have FCL := fun_mk (st := sCL) lCL cCL kCL
  have FHE := fun_mk (st := sHE) lHE cHE kHE
  have FMW := fun_mk (st := sMW) lMW cMW kMW
  have FML := fun_mk (st := sML) lML cML kML
  have FMH := fun_mk (st := sMH) lMH cMH kMH
  have FMS := fun_mk (st := sMS) lMS cMS kMS
  have FBP := fun_mk (st := sBP) lBP cBP kBP
  have FLT := fun_mk (st := sLT) lLT cLT kLT
  have FFT := fun_mk (st := sFT) lFT cFT kFT
  have FMB := fun_mk (st := sMB) lMB cMB kMB
  have FFR := fun_mk (st := sFR) lFR cFR kFR
  have FBD := fun_mk (st := sBD) lBD cBD kBD
  have FJO := fun_mk (st := sJO) lJO cJO kJO
  have bFS := FFS.binds (ps := ["text"]) fun _ _ _ _ _ _ us hl => match us, hl with | [_], _ => rfl
  have bCR := FCR.binds (ps := ["row"]) fun _ _ _ _ _ _ us hl => match us, hl with | [_], _ => rfl
  have bSA := FSA.binds (ps := ["row"]) fun _ _ _ _ _ _ us hl => match us, hl with | [_], _ => rfl
  have bIW := FIW.binds (ps := ["text"]) fun _ _ _ _ _ _ us hl => match us, hl with | [_], _ => rfl
  have bAW := FAW.binds (ps := ["texts"]) fun _ _ _ _ _ _ us hl => match us, hl with | [_], _ => rfl
  have bCP := FCP.binds (ps := ["words", "low", "high", "span"]) fun _ _ _ _ _ _ us hl => match us, hl with | [_, _, _, _], _ => rfl
  have bEF := FEF.binds (ps := ["row", "piece"]) fun _ _ _ _ _ _ us hl => match us, hl with | [_, _], _ => rfl
  have bEB := FEB.binds (ps := ["row", "span"]) fun _ _ _ _ _ _ us hl => match us, hl with | [_, _], _ => rfl
  have bNA := FNA.binds (ps := ["one", "other"]) fun _ _ _ _ _ _ us hl => match us, hl with | [_, _], _ => rfl
  have bOP := FOP.binds (ps := ["_law_script"]) fun _ _ _ _ _ _ us hl => match us, hl with | [_], _ => rfl
  have bPU := FPU.binds (ps := ["_law_draw", "_law_total_of"]) fun _ _ _ _ _ _ us hl => match us, hl with | [_, _], _ => rfl
  have bNU := FNU.binds (ps := ["_law_found"]) fun _ _ _ _ _ _ us hl => match us, hl with | [_], _ => rfl
  have bLK := FLK.binds (ps := ["_law_found", "_law_due"]) fun _ _ _ _ _ _ us hl => match us, hl with | [_, _], _ => rfl
  have bRO := FRO.binds (ps := ["_law_draw", "_law_many"]) fun _ _ _ _ _ _ us hl => match us, hl with | [_, _], _ => rfl
  have bBA := FBA.binds (ps := ["_law_text"]) fun _ _ _ _ _ _ us hl => match us, hl with | [_], _ => rfl
  have bSU := FSU.binds (ps := ["_law_row_here"]) fun _ _ _ _ _ _ us hl => match us, hl with | [_], _ => rfl
  have bLA := FLA.binds (ps := ["_law_r", "_law_row_here"]) fun _ _ _ _ _ _ us hl => match us, hl with | [_, _], _ => rfl
  have bWD := FWD.binds (ps := ["_law_draw"]) fun _ _ _ _ _ _ us hl => match us, hl with | [_], _ => rfl
  have bWS := FWS.binds (ps := ["_law_draw", "_law_most"]) fun _ _ _ _ _ _ us hl => match us, hl with | [_, _], _ => rfl
  have bPA := FPA.binds (ps := ["_law_draw"]) fun _ _ _ _ _ _ us hl => match us, hl with | [_], _ => rfl
  have bRL := FRL.binds (ps := ["_law_r"]) fun _ _ _ _ _ _ us hl => match us, hl with | [_], _ => rfl
  have bOR := FOR.binds (ps := ["_law_draw", "_law_many"]) fun _ _ _ _ _ _ us hl => match us, hl with | [_, _], _ => rfl
  have bTX := FTX.binds (ps := ["_law_many"]) fun _ _ _ _ _ _ us hl => match us, hl with | [_], _ => rfl
  have bFA := FFA.binds (ps := ["_law_draw"]) fun _ _ _ _ _ _ us hl => match us, hl with | [_], _ => rfl
  have bRU := FRU.binds (ps := ["_law_r"]) fun _ _ _ _ _ _ us hl => match us, hl with | [_], _ => rfl
  have bOD := FOD.binds (ps := ["_law_draw"]) fun _ _ _ _ _ _ us hl => match us, hl with | [_], _ => rfl
  have bSR := FSR.binds (ps := ["_law_made", "_law_r"]) fun _ _ _ _ _ _ us hl => match us, hl with | [_, _], _ => rfl
  have bJN := FJN.binds (ps := ["_law_r", "_law_second"]) fun _ _ _ _ _ _ us hl => match us, hl with | [_, _], _ => rfl
  have bCL := FCL.binds (ps := ["_law_r"]) fun _ _ _ _ _ _ us hl => match us, hl with | [_], _ => rfl
  have bHE := FHE.binds (ps := ["_law_found", "_law_due"]) fun _ _ _ _ _ _ us hl => match us, hl with | [_, _], _ => rfl
  have bMW := FMW.binds (ps := ["self"]) fun _ _ _ _ _ _ us hl => match us, hl with | [_], _ => rfl
  have bML := FML.binds (ps := ["self"]) fun _ _ _ _ _ _ us hl => match us, hl with | [_], _ => rfl
  have bMH := FMH.binds (ps := ["self"]) fun _ _ _ _ _ _ us hl => match us, hl with | [_], _ => rfl
  have bMS := FMS.binds (ps := ["self"]) fun _ _ _ _ _ _ us hl => match us, hl with | [_], _ => rfl
  have bBP := FBP.binds (ps := ["self"]) fun _ _ _ _ _ _ us hl => match us, hl with | [_], _ => rfl
  have bLT := FLT.binds (ps := ["self", "row"]) fun _ _ _ _ _ _ us hl => match us, hl with | [_, _], _ => rfl
  have bFT := FFT.binds (ps := ["self", "row"]) fun _ _ _ _ _ _ us hl => match us, hl with | [_, _], _ => rfl
  have bMB := FMB.binds (ps := ["self", "word"]) fun _ _ _ _ _ _ us hl => match us, hl with | [_, _], _ => rfl
  have bFR := FFR.binds (ps := ["self", "word"]) fun _ _ _ _ _ _ us hl => match us, hl with | [_, _], _ => rfl
  have bBD := FBD.binds (ps := ["self", "low", "high", "span"]) fun _ _ _ _ _ _ us hl => match us, hl with | [_, _, _, _], _ => rfl
  have bJO := FJO.binds (ps := ["self", "other"]) fun _ _ _ _ _ _ us hl => match us, hl with | [_, _], _ => rfl
  have mFS := PySem.W.mg_of X G aFS
  have mCR := PySem.W.mg_of X G aCR
  have mSA := PySem.W.mg_of X G aSA
  have mIW := PySem.W.mg_of X G aIW
  have mAW := PySem.W.mg_of X G aAW
  have mCP := PySem.W.mg_of X G aCP
  have mEF := PySem.W.mg_of X G aEF
  have mEB := PySem.W.mg_of X G aEB
  have mNA := PySem.W.mg_of X G aNA
  have mOP := PySem.W.mg_of X G aOP
  have mPU := PySem.W.mg_of X G aPU
  have mNU := PySem.W.mg_of X G aNU
  have mLK := PySem.W.mg_of X G aLK
  have mRO := PySem.W.mg_of X G aRO
  have mBA := PySem.W.mg_of X G aBA
  have mSU := PySem.W.mg_of X G aSU
  have mLA := PySem.W.mg_of X G aLA
  have mWD := PySem.W.mg_of X G aWD
  have mWS := PySem.W.mg_of X G aWS
  have mPA := PySem.W.mg_of X G aPA
  have mRL := PySem.W.mg_of X G aRL
  have mWH := PySem.W.mg_of X G aWH
  have mOR := PySem.W.mg_of X G aOR
  have mTX := PySem.W.mg_of X G aTX
  have mFA := PySem.W.mg_of X G aFA
  have mRU := PySem.W.mg_of X G aRU
  have mOD := PySem.W.mg_of X G aOD
  have mSR := PySem.W.mg_of X G aSR
  have mJN := PySem.W.mg_of X G aJN
  have mCL := PySem.W.mg_of X G aCL
  have mHE := PySem.W.mg_of X G aHE
  have mLW := PySem.W.mg_of X G aLW
  have oexC : OexC K C := ⟨⟨nm, q, N, bs, bm, sn, sub, ab, col, dd, k0, k1, k2, k3, k5, xC, xbC⟩, saC, eC, tC, kC⟩
  have oexD : OexC K C2 := ⟨⟨nmZ, qZ, NZ, bsZ, bmZ, snZ, subZ, abZ, colZ, ee, k0Z, k1Z, k2Z, k3Z, k5Z, xD, xbD⟩, saD, eD, tD, kD⟩
  have S1 : SupC PySem.Challenge.pw_pulsewright_k05_rules_with_more_and_less K mg C fI cc cda "at" := ⟨oexC, natC, mC, vC, supC, opq, ⟨ccl, cdd, vsc, ccs, file, tf, lcdC, vs2C, filC⟩, ⟨cl, cld, csl, lccC⟩, PySem.W.mg_none_of X G z_sup, tps⟩
  have S2 : SupC PySem.Challenge.pw_pulsewright_k05_rules_with_more_and_less K mg C2 gI dc dda "part" := ⟨oexD, natD, mD, vD, supD, opq, ⟨dcl, ddd, vsd, dcs, fileZ, tfZ, lcdD, vs2D, filD⟩, ⟨dl, dld, dsl, lccD⟩, PySem.W.mg_none_of X G z_sup, tps⟩
  have T8 : ClsW K mg C C2 := ⟨PySem.W.mg_of X G aC, PySem.W.mg_of X G aD, ⟨gaD, ggD, eD, hD⟩, natD, exm_of eD iD tD sD, exm_of eC iC tC sDC⟩
  have zany := PySem.W.mg_none_of X G z_any
  have RC : RuleC K R := ⟨⟨pgR, hdR, poR, saR⟩, na1, na2, na3, na4⟩
  have FRI : FunD K "__init__" "Rule.__init__" (defArgs sRI) (defBody sRI) (defScope sRI) dR [] fRI _ := ⟨⟨_, _, _, _, _, _, _, _, _, _, rfl, lRI, cRI, .inr ⟨by simp, Td, _, [.none, .int 0 tk0, .none, .none], nT, rfl, lTd, rfl, .cons rfl (.cons ⟨_, rfl⟩ (.cons rfl (.cons rfl .nil)))⟩, .inl rfl⟩, kRI⟩
  have MK : Mk K R fRI := ⟨mkR, f_RI, i_RI, kR⟩
  have bWH : Binds K (PySem.W.fnOf "_law_why" "_law_why" (defArgs sWH) (defBody sWH) (defScope sWH) .none kVWH dcWH pmWH anWH cdWH ctWH) ["_law_ask"] [] := Binds.all (fun us hl => match us, hl with | [_], _ => rfl)
  refine ⟨PySem.W.fnOf "law" "law" (defArgs sLW) (defBody sLW) (defScope sLW) .none kVLW dcLW pmLW anLW (.ref c) ctLW, [(c, Pt)], spLW K Pt, ?_, ?_, ?_, fun s u => .of_eq rfl, ?_, fun base kb gb tb => ?_⟩
  · intro p hp
    rw [List.mem_singleton.mp hp]
    exact tab
  · intro p hp
    rw [List.mem_singleton.mp hp]
    exact nPt
  · intro p hp
    rw [List.mem_singleton.mp hp]
    exact PySem.W.codeHd_of_K X chd
  · intro H a ns _ _ hp hS
    refine ⟨a, ns, rfl, hS, fun p hm => ?_, fun _ => rfl⟩
    rw [List.mem_singleton.mp hm]
    exact LamX.TabS.nil (hp (c, Pt) (List.mem_singleton.mpr rfl))
  · have E1 : ErrOk PySem.Challenge.pw_pulsewright_k05_rules_with_more_and_less w K mg base "BadRow" "at" C okInt := err_row S1 lIC cIC (PySem.W.mg_of X G aC) aIC tIC
    have E2 : ErrOk PySem.Challenge.pw_pulsewright_k05_rules_with_more_and_less w K mg base "BadRule" "part" C2 okStr := err_rule S2 lID cID (PySem.W.mg_of X G aD) aID tID
    have oFS : FnOk PySem.Challenge.pw_pulsewright_k05_rules_with_more_and_less w K mg base CX0 1 fFS _ ["text"] spFS := ok_fs FFS B.enu
    have oCR : FnOk PySem.Challenge.pw_pulsewright_k05_rules_with_more_and_less w K mg base (L2.CX PySem.Challenge.pw_pulsewright_k05_rules_with_more_and_less w) 3 fCR _ ["row"] (spCR C) := ok_cr FCR oFS mFS kFS bFS E1
    have oSA : FnOk PySem.Challenge.pw_pulsewright_k05_rules_with_more_and_less w K mg base CX0 1 fSA _ ["row"] spSA := ok_sa FSA B.max B.min
    have oIW : FnOk PySem.Challenge.pw_pulsewright_k05_rules_with_more_and_less w K mg base CX0 2 fIW _ ["text"] spIW := ok_iw FIW oFS mFS kFS bFS B.len N2
    have oAW : FnOk PySem.Challenge.pw_pulsewright_k05_rules_with_more_and_less w K mg base CX0 3 fAW _ ["texts"] spAW := ok_aw FAW oIW mIW kIW bIW B.len zset B.all N1
    have oCP : FnOk PySem.Challenge.pw_pulsewright_k05_rules_with_more_and_less w K mg base (L2.CX PySem.Challenge.pw_pulsewright_k05_rules_with_more_and_less w) 4 fCP _ ["words", "low", "high", "span"] (spCP C2) := ok_cp FCP oAW mAW kAW bAW B.max N3 N4 N5 E2
    have oRI : FnOk PySem.Challenge.pw_pulsewright_k05_rules_with_more_and_less w K mg base (L2.CX PySem.Challenge.pw_pulsewright_k05_rules_with_more_and_less w) 5 fRI _ psR (spRI R C2) := ok_ri FRI oCP mCP kCP bCP zsrt RC
    have oEF : FnOk PySem.Challenge.pw_pulsewright_k05_rules_with_more_and_less w K mg base CX0 1 fEF _ ["row", "piece"] spEF := ok_ef FEF B.len
    have oEB : FnOk PySem.Challenge.pw_pulsewright_k05_rules_with_more_and_less w K mg base CX0 2 fEB _ ["row", "span"] spEB := ok_eb FEB B.enu oSA mSA kSA bSA
    have oBP : FnOk PySem.Challenge.pw_pulsewright_k05_rules_with_more_and_less w K mg base CX0 1 fBP _ ["self"] (spBP R) := ok_bp FBP RC B.rng
    have CK : CROk PySem.Challenge.pw_pulsewright_k05_rules_with_more_and_less w K mg base C := ⟨⟨_, _, oCR, mCR, kCR, bCR⟩⟩
    have oFT : FnOk PySem.Challenge.pw_pulsewright_k05_rules_with_more_and_less w K mg base (L2.CX PySem.Challenge.pw_pulsewright_k05_rules_with_more_and_less w) 4 fFT _ ["self", "row"] (spFT R C vI) := ok_ft FFT RC CK B.min oBP ⟨f_BP, i_BP, kBP⟩ bBP oEF mEF kEF bEF oEB mEB kEB bEB
    have oLT : FnOk PySem.Challenge.pw_pulsewright_k05_rules_with_more_and_less w K mg base (L2.CX PySem.Challenge.pw_pulsewright_k05_rules_with_more_and_less w) 5 fLT _ ["self", "row"] (spFT R C fun o => .bl o.isNone) := ok_lt FLT RC oFT ⟨f_FT, i_FT, kFT⟩ bFT
    have oPU : FnOk PySem.Challenge.pw_pulsewright_k05_rules_with_more_and_less w K mg base CX0 1 fPU _ ["_law_draw", "_law_total_of"] spPU := ok_pu FPU B.len
    have PU : PUOk PySem.Challenge.pw_pulsewright_k05_rules_with_more_and_less w K mg base := ⟨⟨_, _, oPU, mPU, kPU, bPU⟩⟩
    have oRO : FnOk PySem.Challenge.pw_pulsewright_k05_rules_with_more_and_less w K mg base CX0 2 fRO _ ["_law_draw", "_law_many"] spRO := ok_ro FRO PU B.rng
    have oNU : FnOk PySem.Challenge.pw_pulsewright_k05_rules_with_more_and_less w K mg base CX0 1 fNU _ ["_law_found"] spNU := ok_nu FNU B
    have oBA : FnOk PySem.Challenge.pw_pulsewright_k05_rules_with_more_and_less w K mg base CX0 1 fBA _ ["_law_text"] spBA := ok_ba FBA B.rng B.len
    have oSU : FnOk PySem.Challenge.pw_pulsewright_k05_rules_with_more_and_less w K mg base CX0 1 fSU _ ["_law_row_here"] spSU := ok_su FSU B.int
    have oLA : FnOk PySem.Challenge.pw_pulsewright_k05_rules_with_more_and_less w K mg base CX0 2 fLA _ ["_law_r", "_law_row_here"] spLA := ok_la FLA B zany oSU mSU kSU bSU
    have oWD : FnOk PySem.Challenge.pw_pulsewright_k05_rules_with_more_and_less w K mg base CX0 3 fWD _ ["_law_draw"] spWD := ok_wd FWD PU oRO mRO kRO bRO
    have oWS : FnOk PySem.Challenge.pw_pulsewright_k05_rules_with_more_and_less w K mg base CX0 4 fWS _ ["_law_draw", "_law_most"] spWS := ok_ws FWS B PU oWD mWD kWD bWD
    have oPA : FnOk PySem.Challenge.pw_pulsewright_k05_rules_with_more_and_less w K mg base CX0 5 fPA _ ["_law_draw"] (spPA 6) := ok_pa FPA B zsrt PU oWS mWS kWS bWS
    have oOR : FnOk PySem.Challenge.pw_pulsewright_k05_rules_with_more_and_less w K mg base CX0 3 fOR _ ["_law_draw", "_law_many"] spOR := ok_or FOR B PU oRO mRO kRO bRO
    have KK : RMk PySem.Challenge.pw_pulsewright_k05_rules_with_more_and_less w K mg base R C2 := ⟨⟨fRI, _, oRI, MK, FRI⟩, PySem.W.mg_of X G aR⟩
    have oRL : FnOk PySem.Challenge.pw_pulsewright_k05_rules_with_more_and_less w K mg base CX0 7 fRL _ ["_law_r"] (spRL R) := ok_rl FRL B KK
    have oNA : FnOk PySem.Challenge.pw_pulsewright_k05_rules_with_more_and_less w K mg base CX0 1 fNA _ ["one", "other"] spNA := ok_na FNA B.min
    have oMW : FnOk PySem.Challenge.pw_pulsewright_k05_rules_with_more_and_less w K mg base CX0 1 fMW _ ["self"] (spMW R) := ok_mw FMW RC B.lst
    have oML : FnOk PySem.Challenge.pw_pulsewright_k05_rules_with_more_and_less w K mg base CX0 1 fML _ ["self"] (spMO R fun lo _ _ => .int lo) := ok_ml FML RC
    have oMH : FnOk PySem.Challenge.pw_pulsewright_k05_rules_with_more_and_less w K mg base CX0 1 fMH _ ["self"] (spMO R fun _ hi _ => vI hi) := ok_mh FMH RC
    have oMS : FnOk PySem.Challenge.pw_pulsewright_k05_rules_with_more_and_less w K mg base CX0 1 fMS _ ["self"] (spMO R fun _ _ sp => vI sp) := ok_ms FMS RC
    have oMB : FnOk PySem.Challenge.pw_pulsewright_k05_rules_with_more_and_less w K mg base (L2.CX PySem.Challenge.pw_pulsewright_k05_rules_with_more_and_less w) 7 fMB _ ["self", "word"] (spMB R C2) := ok_mb FMB RC KK
    have oFR : FnOk PySem.Challenge.pw_pulsewright_k05_rules_with_more_and_less w K mg base (L2.CX PySem.Challenge.pw_pulsewright_k05_rules_with_more_and_less w) 7 fFR _ ["self", "word"] (spFR R C2) := ok_fr FFR RC KK E2
    have oBD : FnOk PySem.Challenge.pw_pulsewright_k05_rules_with_more_and_less w K mg base (L2.CX PySem.Challenge.pw_pulsewright_k05_rules_with_more_and_less w) 7 fBD _ ["self", "low", "high", "span"] (spBD R C2) := ok_bd FBD RC KK
    have oJO : FnOk PySem.Challenge.pw_pulsewright_k05_rules_with_more_and_less w K mg base (L2.CX PySem.Challenge.pw_pulsewright_k05_rules_with_more_and_less w) 7 fJO _ ["self", "other"] (spJO R C2) := ok_jo FJO RC KK B.max oNA mNA kNA bNA oMW ⟨f_MW, i_MW, kMW⟩ bMW oML ⟨f_ML, i_ML, kML⟩ bML oMH ⟨f_MH, i_MH, kMH⟩ bMH oMS ⟨f_MS, i_MS, kMS⟩ bMS
    have oTX : FnOk PySem.Challenge.pw_pulsewright_k05_rules_with_more_and_less w K mg base CX0 1 fTX _ ["_law_many"] spTX := ok_tx FTX B
    have oCL : FnOk PySem.Challenge.pw_pulsewright_k05_rules_with_more_and_less w K mg base CX0 1 fCL _ ["_law_r"] spCL := ok_cl FCL B
    have oJN : FnOk PySem.Challenge.pw_pulsewright_k05_rules_with_more_and_less w K mg base CX0 1 fJN _ ["_law_r", "_law_second"] spJN := ok_jn FJN B zsrt zset B.min
    have oFA : FnOk PySem.Challenge.pw_pulsewright_k05_rules_with_more_and_less w K mg base CX0 2 fFA _ ["_law_draw"] spFA := ok_fa FFA PU
    have oRU : FnOk PySem.Challenge.pw_pulsewright_k05_rules_with_more_and_less w K mg base CX0 2 fRU _ ["_law_r"] spRU := ok_ru FRU B zset oBA mBA kBA bBA
    have oOD : FnOk PySem.Challenge.pw_pulsewright_k05_rules_with_more_and_less w K mg base CX0 6 fOD _ ["_law_draw"] (spPO 30) := ok_od FOD B PU oPA mPA kPA bPA oFA mFA kFA bFA oWD mWD kWD bWD
    have RM : RuleM PySem.Challenge.pw_pulsewright_k05_rules_with_more_and_less w K mg base R := ⟨RC, ⟨⟨_, _, oMW, ⟨f_MW, i_MW, kMW⟩, bMW⟩⟩, ⟨⟨_, _, oML, ⟨f_ML, i_ML, kML⟩, bML⟩⟩, ⟨⟨_, _, oMH, ⟨f_MH, i_MH, kMH⟩, bMH⟩⟩, ⟨⟨_, _, oMS, ⟨f_MS, i_MS, kMS⟩, bMS⟩⟩⟩
    have oSR : FnOk PySem.Challenge.pw_pulsewright_k05_rules_with_more_and_less w K mg base CX0 5 fSR _ ["_law_made", "_law_r"] (spSR R) := ok_sr FSR RM zsrt (ok_lk FLK B mLK kLK bLK oNU mNU kNU bNU 3) mLK kLK bLK
    have oHE : FnOk PySem.Challenge.pw_pulsewright_k05_rules_with_more_and_less w K mg base CX0 6 fHE _ ["_law_found", "_law_due"] (spHE R) := ok_he FHE oRU mRU kRU bRU oSR mSR kSR bSR
    have KB := kb_of (ps := ["self", "low", "high", "span"]) FBD 2 ["high", "span"] (fun us ws => us ++ ws) (fun r1 r2 => r1.append r2) (fun _ _ _ _ _ _ us ws l1 l2 => match us, ws, l1, l2 with | [_, _], [_, _], _, _ => by first | rfl | kernel_rfl)
    have KJ := kb_of (ps := ["self", "other"]) FJO 1 ["other"] (fun us ws => us ++ ws) (fun r1 r2 => r1.append r2) (fun _ _ _ _ _ _ us ws l1 l2 => match us, ws, l1, l2 with | [_], [_], _, _ => by first | rfl | kernel_rfl)
    have Z : Calls PySem.Challenge.pw_pulsewright_k05_rules_with_more_and_less w K mg base R C2 C := ⟨B, ⟨⟨_, _, ok_op FOP B.lst, mOP, kOP, bOP⟩⟩, ⟨⟨_, _, oPU, mPU, kPU, bPU⟩⟩, ⟨⟨_, _, oPA, mPA, kPA, bPA⟩⟩, ⟨⟨_, _, oRL, mRL, kRL, bRL⟩⟩, ⟨⟨_, _, oWD, mWD, kWD, bWD⟩⟩, ⟨⟨_, _, oOR, mOR, kOR, bOR⟩⟩, ⟨⟨_, _, oOD, mOD, kOD, bOD⟩⟩, ⟨⟨_, _, oHE, mHE, kHE, bHE⟩⟩, ⟨⟨_, _, oJN, mJN, kJN, bJN⟩⟩, ⟨⟨_, _, oCL, mCL, kCL, bCL⟩⟩, ⟨⟨_, _, oTX, mTX, kTX, bTX⟩⟩, ⟨⟨_, _, oLA, mLA, kLA, bLA⟩⟩, ⟨⟨_, _, oSR, mSR, kSR, bSR⟩⟩, RC, ⟨⟨_, _, oLT, ⟨f_LT, i_LT, kLT⟩, bLT⟩⟩, ⟨⟨_, _, oMB, ⟨f_MB, i_MB, kMB⟩, bMB⟩⟩, ⟨⟨_, _, oFR, ⟨f_FR, i_FR, kFR⟩, bFR⟩⟩, ⟨⟨_, _, oJO, ⟨f_JO, i_JO, kJO⟩, bJO⟩⟩, ⟨_, _, oBD, ⟨f_BD, i_BD, kBD⟩, KB⟩, ⟨_, _, oJO, ⟨f_JO, i_JO, kJO⟩, KJ⟩⟩
    exact ok_lw lLW cLW lWH cWH mWH kWH bWH (tb (c, Pt) (List.mem_singleton.mpr rfl)) T8 (PySem.W.mg_of X G aC3) (PySem.W.mg_of X G aC4) (PySem.W.mg_of X G aC5) (PySem.W.mg_of X G aC6) (PySem.W.mg_of X G aC7) (PySem.W.mg_of X G aC8) Z
end K05

set_option Elab.async false
open PySem PySem.W PyProof.Rows
set_option maxRecDepth 100000 in
set_option maxHeartbeats 0 in
theorem PySem.Challenge.cw_pulsewright_k05_rules_with_more_and_less_holds : PySem.Challenge.rw_pulsewright_k05_rules_with_more_and_less.Holds := by
  w_on; o_law; k_head; (case hw => w_witness2)
  k_fill
  refine LamX.walk_ofTs (l := PySem.Challenge.rw_pulsewright_k05_rules_with_more_and_less) (n := 63) (k := 10) (x := "_law_script") (CX := fun _ => L2.CX0) rfl (by decide) rfl ⟨rfl, by decide, by decide⟩ (fun w h Y => PySem.W.km_in_of Y) ?F (fun _ _ _ _ _ z => z)
  case F =>
    intro w mg fa h Y KX G hmg
    have hY := PySem.W.km_tabs_of Y
    refine' K05.all_mk KX G hmg ?aFS ?lFS ?cFS ?kFS ?aCR ?lCR ?cCR ?kCR ?aSA ?lSA ?cSA ?kSA ?aIW ?lIW ?cIW ?kIW ?aAW ?lAW ?cAW ?kAW ?aCP ?lCP ?cCP ?kCP ?aEF ?lEF ?cEF ?kEF ?aEB ?lEB ?cEB ?kEB ?aNA ?lNA ?cNA ?kNA ?aOP ?lOP ?cOP ?kOP ?aPU ?lPU ?cPU ?kPU ?aNU ?lNU ?cNU ?kNU ?aLK ?lLK ?cLK ?kLK ?aRO ?lRO ?cRO ?kRO ?aBA ?lBA ?cBA ?kBA ?aSU ?lSU ?cSU ?kSU ?aLA ?lLA ?cLA ?kLA ?aWD ?lWD ?cWD ?kWD ?aWS ?lWS ?cWS ?kWS ?aPA ?lPA ?cPA ?kPA ?aRL ?lRL ?cRL ?kRL ?aWH ?lWH ?cWH ?kWH ?aOR ?lOR ?cOR ?kOR ?aTX ?lTX ?cTX ?kTX ?aFA ?lFA ?cFA ?kFA ?aRU ?lRU ?cRU ?kRU ?aOD ?lOD ?cOD ?kOD ?aSR ?lSR ?cSR ?kSR ?aJN ?lJN ?cJN ?kJN ?aCL ?lCL ?cCL ?kCL ?aHE ?lHE ?cHE ?kHE ?aLW ?lLW ?cLW ?kLW ?z_isi ?z_int ?z_bool ?z_str ?z_tup ?z_lst ?z_len ?z_all ?z_rng ?z_max ?z_min ?z_abs ?z_enu ?z_sup ?z_set ?z_srt ?z_any ?n1 ?n2 ?n3 ?n4 ?n5 ?aR ?f_MW ?lMW ?cMW ?i_MW ?kMW ?f_ML ?lML ?cML ?i_ML ?kML ?f_MH ?lMH ?cMH ?i_MH ?kMH ?f_MS ?lMS ?cMS ?i_MS ?kMS ?f_BP ?lBP ?cBP ?i_BP ?kBP ?f_LT ?lLT ?cLT ?i_LT ?kLT ?f_FT ?lFT ?cFT ?i_FT ?kFT ?f_MB ?lMB ?cMB ?i_MB ?kMB ?f_FR ?lFR ?cFR ?i_FR ?kFR ?f_BD ?lBD ?cBD ?i_BD ?kBD ?f_JO ?lJO ?cJO ?i_JO ?kJO ?f_RI ?lRI ?cRI ?i_RI ?kRI ?lTd ?mkR ?kR ?pgR ?hdR ?poR ?saR ?na1 ?na2 ?na3 ?na4 ?aC ?xC ?xbC ?saC ?iC ?natC ?eC ?vC ?tC ?mC ?kC ?aIC ?tIC ?lIC ?cIC ?lcdC ?lccC ?supC ?vs2C ?filC ?aD ?xD ?xbD ?saD ?gaD ?ggD ?hD ?iD ?sD ?natD ?eD ?vD ?tD ?mD ?kD ?aID ?tID ?lID ?cID ?lcdD ?lccD ?supD ?vs2D ?filD ?sDC ?aC3 ?aC4 ?aC5 ?aC6 ?aC7 ?aC8 ?opq ?tps ?tab ?nPt ?chd
    (case aFS => k_is)
    (case lFS => k_is)
    (case cFS => k_is)
    (case kFS => k_is)
    (case aCR => k_is)
    (case lCR => k_is)
    (case cCR => k_is)
    (case kCR => k_is)
    (case aSA => k_is)
    (case lSA => k_is)
    (case cSA => k_is)
    (case kSA => k_is)
    (case aIW => k_is)
    (case lIW => k_is)
    (case cIW => k_is)
    (case kIW => k_is)
    (case aAW => k_is)
    (case lAW => k_is)
    (case cAW => k_is)
    (case kAW => k_is)
    (case aCP => k_is)
    (case lCP => k_is)
    (case cCP => k_is)
    (case kCP => k_is)
    (case aEF => k_is)
    (case lEF => k_is)
    (case cEF => k_is)
    (case kEF => k_is)
    (case aEB => k_is)
    (case lEB => k_is)
    (case cEB => k_is)
    (case kEB => k_is)
    (case aNA => k_is)
    (case lNA => k_is)
    (case cNA => k_is)
    (case kNA => k_is)
    (case aOP => k_is)
    (case lOP => k_is)
    (case cOP => k_is)
    (case kOP => k_is)
    (case aPU => k_is)
    (case lPU => k_is)
    (case cPU => k_is)
    (case kPU => k_is)
    (case aNU => k_is)
    (case lNU => k_is)
    (case cNU => k_is)
    (case kNU => k_is)
    (case aLK => k_is)
    (case lLK => k_is)
    (case cLK => k_is)
    (case kLK => k_is)
    (case aRO => k_is)
    (case lRO => k_is)
    (case cRO => k_is)
    (case kRO => k_is)
    (case aBA => k_is)
    (case lBA => k_is)
    (case cBA => k_is)
    (case kBA => k_is)
    (case aSU => k_is)
    (case lSU => k_is)
    (case cSU => k_is)
    (case kSU => k_is)
    (case aLA => k_is)
    (case lLA => k_is)
    (case cLA => k_is)
    (case kLA => k_is)
    (case aWD => k_is)
    (case lWD => k_is)
    (case cWD => k_is)
    (case kWD => k_is)
    (case aWS => k_is)
    (case lWS => k_is)
    (case cWS => k_is)
    (case kWS => k_is)
    (case aPA => k_is)
    (case lPA => k_is)
    (case cPA => k_is)
    (case kPA => k_is)
    (case aRL => k_is)
    (case lRL => k_is)
    (case cRL => k_is)
    (case kRL => k_is)
    (case aWH => k_is)
    (case lWH => k_is)
    (case cWH => k_is)
    (case kWH => k_is)
    (case aOR => k_is)
    (case lOR => k_is)
    (case cOR => k_is)
    (case kOR => k_is)
    (case aTX => k_is)
    (case lTX => k_is)
    (case cTX => k_is)
    (case kTX => k_is)
    (case aFA => k_is)
    (case lFA => k_is)
    (case cFA => k_is)
    (case kFA => k_is)
    (case aRU => k_is)
    (case lRU => k_is)
    (case cRU => k_is)
    (case kRU => k_is)
    (case aOD => k_is)
    (case lOD => k_is)
    (case cOD => k_is)
    (case kOD => k_is)
    (case aSR => k_is)
    (case lSR => k_is)
    (case cSR => k_is)
    (case kSR => k_is)
    (case aJN => k_is)
    (case lJN => k_is)
    (case cJN => k_is)
    (case kJN => k_is)
    (case aCL => k_is)
    (case lCL => k_is)
    (case cCL => k_is)
    (case kCL => k_is)
    (case aHE => k_is)
    (case lHE => k_is)
    (case cHE => k_is)
    (case kHE => k_is)
    (case aLW => k_is)
    (case lLW => k_is)
    (case cLW => k_is)
    (case kLW => k_is)
    (case z_isi => k_is)
    (case z_int => k_is)
    (case z_bool => k_is)
    (case z_str => k_is)
    (case z_tup => k_is)
    (case z_lst => k_is)
    (case z_len => k_is)
    (case z_all => k_is)
    (case z_rng => k_is)
    (case z_max => k_is)
    (case z_min => k_is)
    (case z_abs => k_is)
    (case z_enu => k_is)
    (case z_sup => k_is)
    (case z_set => k_is)
    (case z_srt => k_is)
    (case z_any => k_is)
    (case n1 => k_is)
    (case n2 => k_is)
    (case n3 => k_is)
    (case n4 => k_is)
    (case n5 => k_is)
    (case aR => k_is)
    (case f_MW => k_is)
    (case lMW => k_is)
    (case cMW => k_is)
    (case i_MW => k_is)
    (case kMW => k_is)
    (case f_ML => k_is)
    (case lML => k_is)
    (case cML => k_is)
    (case i_ML => k_is)
    (case kML => k_is)
    (case f_MH => k_is)
    (case lMH => k_is)
    (case cMH => k_is)
    (case i_MH => k_is)
    (case kMH => k_is)
    (case f_MS => k_is)
    (case lMS => k_is)
    (case cMS => k_is)
    (case i_MS => k_is)
    (case kMS => k_is)
    (case f_BP => k_is)
    (case lBP => k_is)
    (case cBP => k_is)
    (case i_BP => k_is)
    (case kBP => k_is)
    (case f_LT => k_is)
    (case lLT => k_is)
    (case cLT => k_is)
    (case i_LT => k_is)
    (case kLT => k_is)
    (case f_FT => k_is)
    (case lFT => k_is)
    (case cFT => k_is)
    (case i_FT => k_is)
    (case kFT => k_is)
    (case f_MB => k_is)
    (case lMB => k_is)
    (case cMB => k_is)
    (case i_MB => k_is)
    (case kMB => k_is)
    (case f_FR => k_is)
    (case lFR => k_is)
    (case cFR => k_is)
    (case i_FR => k_is)
    (case kFR => k_is)
    (case f_BD => k_is)
    (case lBD => k_is)
    (case cBD => k_is)
    (case i_BD => k_is)
    (case kBD => k_is)
    (case f_JO => k_is)
    (case lJO => k_is)
    (case cJO => k_is)
    (case i_JO => k_is)
    (case kJO => k_is)
    (case f_RI => k_is)
    (case lRI => k_is)
    (case cRI => k_is)
    (case i_RI => k_is)
    (case kRI => k_is)
    (case lTd => k_is)
    (case mkR => k_is)
    (case kR => k_is)
    (case pgR => k_is)
    (case hdR => k_is)
    (case poR => k_is)
    (case saR => k_is)
    (case na1 => k_is)
    (case na2 => k_is)
    (case na3 => k_is)
    (case na4 => k_is)
    (case aC => k_is)
    (case xC => k_is)
    (case xbC => first | rfl | decide +kernel)
    (case saC => k_is)
    (case iC => k_is)
    (case natC => k_is)
    (case eC => k_is)
    (case vC => k_is)
    (case tC => k_is)
    (case mC => k_is)
    (case kC => k_is)
    (case aIC => k_is)
    (case tIC => k_is)
    (case lIC => k_is)
    (case cIC => k_is)
    (case lcdC => k_is)
    (case lccC => k_is)
    (case supC => ks_is)
    (case vs2C => rfl)
    (case filC => first | rfl | decide +kernel)
    (case aD => k_is)
    (case xD => k_is)
    (case xbD => first | rfl | decide +kernel)
    (case saD => k_is)
    (case gaD => k_is)
    (case ggD => k_is)
    (case hD => k_is)
    (case iD => k_is)
    (case sD => k_is)
    (case natD => k_is)
    (case eD => k_is)
    (case vD => k_is)
    (case tD => k_is)
    (case mD => k_is)
    (case kD => k_is)
    (case aID => k_is)
    (case tID => k_is)
    (case lID => k_is)
    (case cID => k_is)
    (case lcdD => k_is)
    (case lccD => k_is)
    (case supD => ks_is)
    (case vs2D => rfl)
    (case filD => first | rfl | decide +kernel)
    (case sDC => k_is)
    (case aC3 => k_is)
    (case aC4 => k_is)
    (case aC5 => k_is)
    (case aC6 => k_is)
    (case aC7 => k_is)
    (case aC8 => k_is)
    (case opq => k_is)
    (case tps => first | rfl | decide +kernel)
    (case tab => exact hY _ (List.mem_singleton.mpr rfl))
    (case nPt => first | rfl | kernel_rfl)
    (case chd => first | rfl | kernel_rfl)

