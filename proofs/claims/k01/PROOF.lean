import PyProof.Rows.All
import Wide.All
import OpenK.AllK
import Wide.FinOn
import KE.KExcSuper
import HandS.Base
import HandS.Call
import HandS.List
import HandS.Ends
import HandS.Exc
import HandS.ExcInit
import HandS.Words
import HandS.Lambda
import HandS.ExcField
import KE.GoesMore
import HandS.Iter
import HandS.Walk
import HandS.Text
import HandS.ForMost
import HandS.ForExc
import HandS.FStr
import HandS.IsInst
import HandS.EndTab
import HandS.Flow
import HandS.Wide
import KE.RegKSuper
import PySem.Challenge.RW_pulsewright_k01_rows_by_themselves
set_option Elab.async false
set_option linter.all false
set_option maxRecDepth 100000
set_option maxHeartbeats 4000000
namespace Pw
open PySem PySem.Spec PyProof.Rows L2

abbrev supScope (f : Str) : Scope := { kind := .function, names := [("self", .local), (f, .local), ("__class__", .free), ("super", .globalImplicit)], isGenerator := false, isCoroutine := false, more := [] }

/-- the body of such an __init__: super().__init__(msg); self.f = f -/
abbrev supBody (msg : Expr) (f : Str) (p0 p1 p2 p3 p4 p5 p6 p7 p8 : Pos) : List Stmt :=
  [.Expr (.Call (.Attribute (.Call (.Name "super" p0) [] [] p1) "__init__" p2) [msg] [] p3) p4,
   .Assign [.Attribute (.Name "self" p5) f p6] (.Name f p7) p8]

/-- its context -/
def supCx (P : Program) (w : World) (K : PySem.W.Frag) (mg : Str → Option Value) (base : Heap) (f : Str) (qual : Str) (fI cda cc : Addr) (A : Around) (outer : List Env) (s : Shared) (H : Hp) : Cx where
  prog := P
  w := w
  K := K
  mg := mg
  base := base
  A := A.deeper (PySem.W.ksEnv qual (supScope f) s.heap.objs.size fI (.ref cda) cc)
  N := ["self", f]
  s_0 := s
  H_0 := H
  env := PySem.W.ksEnv qual (supScope f) s.heap.objs.size fI (.ref cda) cc
  outer := outer
  stack := PySem.W.ksEnv qual (supScope f) s.heap.objs.size fI (.ref cda) cc :: outer
  ex := []
  fn := fun _ => false
  calm := true
  pn := []
  xe := fun _ _ => False

/-- what the written part says of the class at C, its __init__ at fI, the cell at cc, the code object at cda -/
structure SupC (P : Program) (K : PySem.W.Frag) (mg : Str → Option Value) (C fI cc cda : Addr) (f : Str) : Prop where
  oex : OexC K C
  noF : PySem.W.findIn K (.ref C) f = some none
  sub : PySem.W.mroIn K C (.ref C) = some true
  subVE : PySem.W.subIn K (.ref C) (.type "ValueError") = some true
  sup : PySem.W.ks_superIn K C C "__init__" = some (some (.builtin "ValueError.__init__"))
  op : PySem.W.nsIn K cStatics "thirdparty.any" = some none
  code : ∃ ccl cdd vs ccs file tf, K.lookup cda = some ⟨ccl, cdd, .fields vs, ccs⟩ ∧ vs[2]? = some (.str file tf) ∧ ((P.main.file : Str) == file) = true
  cell : ∃ cl cld csl, K.lookup cc = some ⟨cl, cld, .cell (some (.ref C)), csl⟩
  mgS : mg "super" = none
  topS : (P.main.scope.names.lookup ("super" : Str)).isSome = false

/-- the promise of the __init__: the new exception's dict holds the field -/
def spSup (C : Addr) (f : Str) (Okv : V → Prop) : Sp := fun vs H Q _ => ∃ (a : Addr) (v : V), vs = [.ref a, v] ∧ Okv v ∧ H a = some (exo a C none) ∧
  ∀ dx, H dx = none → dx ≠ a → Q .non (upd (upd H dx (exd dx [(f, v)])) a (exo a C (some dx)))

section
variable {P : Program} {w : World} {K : PySem.W.Frag} {mg : Str → Option Value} {base : Heap} {f qual : Str} {C fI cda cc : Addr}
theorem sup_start {A : Around} {outer : List Env} {s : Shared} {H : Hp} {h₁ : Heap} {a : Addr} {v : V} {u : Value} {tk : Nat} (hfs : (f == ("self" : Str)) = false) (hfc : (f == ("__class__" : Str)) = false) (T : SupC P K mg C fI cc cda f) (hd : A.handled = none) (e0 : Env0 P w K mg base A outer s H) (rv : RelV v u)
    (hns : h₁.Ns s.heap.objs.size (fun x => ([("self", Value.ref a), (f, u)] : List (Str × Value)).reverse.lookup x)) (kp : ∀ b o, s.heap.get? b = some o → h₁.get? b = some o) :
    Inv (supCx P w K mg base f qual fI cda cc A outer s H) [] [some (.ref a), some v] H { s with heap := h₁, toks := tk } := by
  obtain ⟨cl, cld, csl, hcell⟩ := T.cell
  have hcb : base.get? cc = some ⟨cl, cld, .cell (some (.ref C)), csl⟩ := e0.mod.kin _ _ hcell
  have hcs := e0.bs _ _ hcb
  have noA : ∀ b : Addr, b ∉ (supCx P w K mg base f qual fI cda cc A outer s H).ex := fun b z => absurd (show b ∈ ([] : List Addr) from z) (by simp)
  have only : ∀ {y : Str} {c : Addr}, ([("__class__", cc)] : List (Str × Addr)).lookup y = some c → y = "__class__" ∧ c = cc := fun {y c} e => by
    by_cases hy : y = "__class__"
    · subst hy
      have e2 : some cc = some c := e
      exact ⟨rfl, (Option.some.inj e2).symm⟩
    · have : (y == ("__class__" : Str)) = false := by simpa using hy
      simp [List.lookup, this] at e
  refine ⟨⟨e0.mod, rfl, rfl, rfl, Nat.le_refl _, fun y z c e1 e2 => ?_, fun y hy => ?_, fun y c z _ => ?_, fun _ => hd, Around.frames_deeper e0.frames, .inr ⟨rfl, rfl⟩, fun b z => absurd z (noA b), e0.bs, e0.bsz, fun b _ _ => noA b,
      fun b z => absurd z (noA b), e0.funs, e0.frf⟩,
    rfl, e0.bare, Un.kept kp, ⟨_, hns, fun i y v' e1 e2 e3 => ?_⟩, fun y c e => ?_, e0.hok.fresh (Nat.le_refl _), fun y c e => ?_, fun q hq => absurd (show q ∈ ([] : List (Addr × Obj)) ++ [] from hq) (by simp), e0.hok.kept kp, rfl⟩
  · exact (only e1).1.trans (only e2).1.symm
  · have hy : (supScope f).names.lookup y = some .cell ∨ (supScope f).names.lookup y = some .free := hy
    have : y = "__class__" := by
      by_cases h1 : y = "self"
      · subst h1
        rcases hy with h | h <;> cases h
      · by_cases h2 : y = f
        · subst h2
          have q1 : (y == ("self" : Str)) = false := hfs
          simp [List.lookup, q1] at hy
        · by_cases h3 : y = "__class__"
          · exact h3
          · have q1 : (y == ("self" : Str)) = false := by simpa using h1
            have q2 : (y == f) = false := by simpa using h2
            have q3 : (y == ("__class__" : Str)) = false := by simpa using h3
            by_cases h4 : y = "super"
            · subst h4
              simp [List.lookup, q1, q2, q3] at hy
            · have q4 : (y == ("super" : Str)) = false := by simpa using h4
              simp [List.lookup, q1, q2, q3, q4] at hy
    subst this
    exact ⟨cc, rfl⟩
  · have z : false = true := z
    cases z
  · match i, e1, e2 with
    | 0, e1, e2 =>
      have e1 : "self" = y := Option.some.inj e1
      have e2 : V.ref a = v' := Option.some.inj (Option.some.inj e2)
      subst e1
      subst e2
      refine ⟨_, rfl, .inl ⟨rfl, ?_⟩⟩
      have q : (("self" : Str) == f) = false := by
        have := hfs
        rw [beq_eq_false_iff_ne] at this ⊢
        exact this.symm
      simp [List.lookup, q]
    | 1, e1, e2 =>
      have e1 : f = y := Option.some.inj e1
      have e2 : v = v' := Option.some.inj (Option.some.inj e2)
      subst e1
      subst e2
      refine ⟨_, rv, .inl ⟨?_, by simp [List.lookup]⟩⟩
      show (supScope f).names.lookup f = some .local
      simp [List.lookup, hfs]
    | n + 2, e1, e2 => simp [supCx] at e1
  · obtain ⟨_, rfl⟩ := only e
    exact ⟨_, _, kp _ _ hcs.1, rfl⟩
  · obtain ⟨_, rfl⟩ := only e
    exact hcs.2

theorem fn_sup {k : Nat} {CX : CXT} {Okv : V → Prop} {name : Str} {ap : Arguments} {mv : List Expr} {pj : Pos} {dV kV doc pm ct oc : Value} {an od : Option Addr} {osl : Array (Option Value)} {p0 p1 p2 p3 p4 p5 p6 p7 p8 : Pos}
    (hfs : (f == ("self" : Str)) = false) (hfc : (f == ("__class__" : Str)) = false) (hfu : (f == ("super" : Str)) = false) (hfd : (f == ("__debug__" : Str)) = false) (hfcd : (f == ("__classdict__" : Str)) = false) (T : SupC P K mg C fI cc cda f)
    (hap : (ap.posonlyargs ++ ap.args).head?.map (·.arg) = some ("self" : Str))
    (lk : K.lookup fI = some ⟨oc, od, .func (PySem.W.ksFn name qual ap (supBody (.JoinedStr mv pj) f p0 p1 p2 p3 p4 p5 p6 p7 p8) (supScope f) dV kV doc pm an (.ref cda) ct cc), osl⟩) (hcd : PySem.W.codeIn K (.ref cda) qual = true)
    (hmsg : ∀ X : Cx, X.N = (["self", f] : List Str) → X.env.scope = supScope f → ∃ tm : TE, PE X (.JoinedStr mv pj) tm ∧ ∀ (a : Addr) (v : V) (H : Hp) (Q : VK), Okv v → (∀ z : Str, Q (.str z) H) → tm [some (.ref a), some v] H Q)
    {pl : Sem Bool} (he : ∀ env : Env, eval (.Call (.Attribute (.Call (.Name "super" p0) [] [] p1) "__init__" p2) [.JoinedStr mv pj] [] p3) env = (do
      let ov ← attributeBase (.Call (.Name "super" p0) [] [] p1) "__init__" env (eval (.Call (.Name "super" p0) [] [] p1) env)
      standAt p2.atName
      let (f, first) ← holding [ov] (getMethod ov "__init__" pl)
      callWith p3 f first (backTo p3 (starEach [.JoinedStr mv pj] env)) [])) :
    FnOk P w K mg base CX (k + 1) fI (PySem.W.ksFn name qual ap (supBody (.JoinedStr mv pj) f p0 p1 p2 p3 p4 p5 p6 p7 p8) (supScope f) dV kV doc pm an (.ref cda) ct cc) ["self", f] (spSup C f Okv) := by
  refine ⟨fun vs H Q E h => ?_, fun A outer s H args us vs Q E hr e0 hb r hsp => ?_⟩
  · obtain ⟨a, v, rfl, _⟩ := h
    rfl
  obtain ⟨a, v, rfl, hv, ha, q⟩ := hsp
  obtain ⟨u1, rfl, rv⟩ : ∃ u1, us = [.ref a, u1] ∧ RelV v u1 := by
    cases r with
    | cons r0 r1 =>
      cases r1 with
      | cons r1 r2 =>
        cases r2
        cases r0
        exact ⟨_, rfl, r1⟩
  have KX : K.In s.heap := e0.mod.kin.keeps fun b o e => (e0.bs b o e).1
  have lim : s.heap.NoLimit := e0.mod.nolimit.keeps fun b o e => (e0.bs b o e).1
  have hfs' : (f == ("self" : Str)) = false := hfs
  refine PySem.ks_codeAny_call_defAt (fd := PySem.W.ksFn name qual ap (supBody (.JoinedStr mv pj) f p0 p1 p2 p3 p4 p5 p6 p7 p8) (supScope f) dV kV doc pm an (.ref cda) ct cc) (body := supBody (.JoinedStr mv pj) f p0 p1 p2 p3 p4 p5 p6 p7 p8) (binds := [("self", .ref a), (f, u1)])
    hr.depth (KX _ _ lk) rfl lim (PySem.W.codeRec_of KX hcd) rfl hb ?_ ?_ (fun h₁ hns kp => ?_) rfl rfl rfl
  · intro x hx
    have hx : x ∈ (supScope f).names := hx
    simp at hx
    rcases hx with rfl | rfl | rfl | rfl <;> simp
  · intro x hx
    simp at hx
    show (supScope f).names.lookup x.1 = some .local
    rcases hx with rfl | rfl
    · rfl
    · simp [List.lookup, hfs']
  have I : Inv (supCx P w K mg base f qual fI cda cc A outer s H) [] [some (.ref a), some v] H { s with heap := h₁, toks := s.toks + 2 } := sup_start hfs hfc T hr.hd e0 rv hns kp
  have KX1 : K.In h₁ := I.kIn
  obtain ⟨t1, hoe⟩ := exo_at I.hok ha
  obtain ⟨nm, qn, N, bs, bm, sn, sub, ab, col, dd, k0, k1, k2, k3, k5, hC, hbm⟩ := T.oex.cls
  have hcl : PySem.W.clsIn K C = some { name := nm, bases := bs, mro := .ref C :: bm, ns := N, qualname := qn, hasDict := true, slotNames := sn, subclasses := sub, abstract := ab, collection := col, hasDel := false } := by unfold PySem.W.clsIn; rw [hC] <;> rfl
  have hC1 := KX1 _ _ hC
  obtain ⟨ccl, cdd, vs, ccs, file, tf, hcode, hvs, hfile⟩ := T.code
  obtain ⟨cl, cld, csl, hcell⟩ := T.cell
  obtain ⟨ar, har, hara⟩ : ∃ ar : Arg, (ap.posonlyargs ++ ap.args).head? = some ar ∧ ar.arg = "self" := by
    cases e : (ap.posonlyargs ++ ap.args).head? with
    | none =>
      rw [e] at hap
      cases hap
    | some ar =>
      rw [e] at hap
      exact ⟨ar, rfl, Option.some.inj hap⟩
  have hInst : PySem.W.InstAt h₁ a { cls := .ref C, dict := none, data := .fields #[.ref t1, .none, .none, .none, .bool false, .none] } C none := ⟨hoe, rfl, rfl, trivial⟩
  have hxC : a ≠ C := PySem.W.ks_ne KX1 hInst hcl
  have sy : ∀ {x y : Str}, (x == y) = false → (y == x) = false := fun {x y} h => by
    rw [beq_eq_false_iff_ne] at h ⊢
    exact h.symm
  have l_super : (supScope f).names.lookup ("super" : Str) = some .globalImplicit := by
    have q1 := sy hfu
    have q2 : (("super" : Str) == ("self" : Str)) = false := by decide
    have q3 : (("super" : Str) == ("__class__" : Str)) = false := by decide
    simp [List.lookup, q1, q2, q3]
  have l_class : (supScope f).names.lookup ("__class__" : Str) = some .free := by
    have q1 := sy hfc
    have q2 : (("__class__" : Str) == ("self" : Str)) = false := by decide
    simp [List.lookup, q1, q2]
  have l_f : (supScope f).names.lookup f = some .local := by simp [List.lookup, hfs']
  obtain ⟨mb, hb1, hb2⟩ := e0.mod.blt
  refine PySem.ks_wpAt_execs_cons (PySem.ks_wpAt_Expr_any (PySem.ks_wpAt_MethodCall (pl := pl) ?_ (he _)) rfl rfl)
  refine PySem.ks_wpAt_super_base (env := PySem.W.ksEnv qual (supScope f) s.heap.objs.size fI (.ref cda) cc) ?ks ?kc rfl rfl (KX1 _ _ lk) rfl har rfl (KX1 _ _ hcode) rfl hvs hfile T.topS ?_
  case ks => exact l_super
  case kc => exact l_class
  refine PySem.W.ks_loadName_global rfl l_super (PySem.Calls.loadGlobal_builtin (env := PySem.W.ksEnv qual (supScope f) s.heap.objs.size fI (.ref cda) cc) (I.mod.glob.keeps I.bk) T.mgS (hb1.keeps I.bk) ((hb2 _ (by decide)).trans PyProof.Rows.Boot.«super») ⟨rfl, ?_⟩)
  refine wpAny_loadName_free rfl l_class rfl ⟨_, KX1 _ _ hcell, rfl⟩ ?_
  rw [hara]
  refine wpAny_loadName_local rfl rfl hns (v := .ref a) ?_ ?_
  · have q := sy hfs
    simp [List.lookup, q]
  refine PySem.ks_wpAny_isType_cls hC1 rfl ⟨rfl, ?_⟩
  refine PySem.ks_wpAny_call_super hC1 rfl hoe rfl (fun c e => by cases e) (PySem.W.looks_mroIn KX1 T.sub) (fun h2 hso k2 => ?_)
  have I2 := I.kept (h' := h2) (t' := s.toks + 2) k2
  have KX2 : K.In h2 := I2.kIn
  have hInst2 : PySem.W.InstAt h2 a { cls := .ref C, dict := none, data := .fields #[.ref t1, .none, .none, .none, .bool false, .none] } C none := ⟨k2 _ _ hoe, rfl, rfl, trivial⟩
  refine PySem.W.kxs_getMethod PySem.W.kxs_ValueError hso (PySem.W.looks_opaque KX2 T.op) (l₀ := .ref C :: bm) ?mro rfl KX2 ?along (hInst2.type.andThen (PySem.W.looks_subIn KX2 T.subVE)) hxC rfl ?_
  case mro => exact fun A Q E s k q => wpAny_bind ((PySem.W.looks_clsIn KX2 hcl) A _ E s k (wpAny_pure q))
  case along =>
    have z := T.sup
    unfold PySem.W.ks_superIn at z
    rw [hcl] at z
    exact z
  have I3 := I2.kept (h' := h2.push (PySem.W.kxs_mw "ValueError.__init__" a)) (t' := s.toks + 2 + 1) (fun b o e => Heap.get?_push_of_some _ e)
  have hsz : H h2.objs.size = none := I2.hok.fresh (Nat.le_refl _)
  have I4 := I3.pins_of (pins' := [(h2.objs.size, PySem.W.kxs_mw "ValueError.__init__" a)]) (fun p hp => by
    obtain rfl : p = (h2.objs.size, PySem.W.kxs_mw "ValueError.__init__" a) := by simpa using hp
    exact ⟨Heap.get?_push_at rfl rfl, hsz, Nat.ne_of_gt I2.lt, I2.nofs (Nat.le_refl _), fun v z => by cases z⟩)
  obtain ⟨tm, hpe, htm⟩ := hmsg (supCx P w K mg base f qual fI cda cc A outer s H) rfl rfl
  refine PySem.W.kxs_callWith (i := "ValueError.__init__") (x := a) rfl (PySem.Calls.evalArgs_plain ?_)
  refine wpAny_mono ((pa_cons hpe pa_nil).run p3 _ _ _ H (fun vs H1 => (∃ z, vs = [.str z]) ∧ H1 = H) I4 (htm a v H _ hv fun z => ⟨⟨z, rfl⟩, rfl⟩)) (fun us s5 hq5 => ?_) (fun _ _ z => z.elim)
  obtain ⟨vs5, H1, I5, r5, ⟨z, ev⟩, eH⟩ := hq5
  rw [eH] at I5
  have hu := (I5.pin (h2.objs.size, PySem.W.kxs_mw "ValueError.__init__" a) (by simp)).1
  refine ⟨hu, ?_⟩
  obtain ⟨hp5, g5, d5, t5, os5⟩ := s5
  obtain ⟨t6, hoe5⟩ := exo_at I5.hok ha
  have hC5 := I5.kIn _ _ hC
  have hz5 : us.length ≤ sizeLine := by
    rw [← Paired.length r5, ev, sizeLine_eq]
    exact Nat.le_trans (Nat.le_refl 1) (by omega)
  refine wpAny_call (codeAny_of_tree ?_)
  show wpAny _ _ (callAny (.ref h2.objs.size) ⟨us, []⟩) _ _ _
  simp only [callAny]
  refine wpAny_bind (wpAny_load hu ?_)
  simp only [PySem.W.kxs_mw, show (Value.type "method-wrapper" == Value.type "method" || Value.type "method-wrapper" == Value.type "builtin_function_or_method" || Value.type "method-wrapper" == Value.type "method-wrapper") = true by decide, if_true]
  refine PySem.W.KFB.if_so (by decide) ?_
  refine wpAny_bind (PySem.W.check_bound_init PySem.F.excBase_ValueError.toExcCallFacts hC5 hoe5 rfl ?_)
  refine wpAny_bind (wpAny_pure (wpAny_pure ?_))
  refine ⟨plainId_quiet PySem.F.excBase_ValueError.init.plain _, codeAny_builtin PySem.F.excBase_ValueError.initEntry ?_⟩
  refine PySem.W.exc_init_tree (cls := .ref C) (t0 := t6) (dv := none) (c2 := .none) (c3 := .none) (b4 := .bool false) hoe5 hz5 (fun h6 k6 e6 _ => ?_)
  have J0 := I5.write (h' := h6) (t' := t5) (x := a) (e := a) (o := exo a C none) (by rw [ha]; exact True.intro) (.inl rfl) k6 ⟨_, e6⟩ (exo_ok e6)
  have eu : upd H a (exo a C none) = H := by
    funext b
    by_cases hb : b = a
    · rw [hb, upd_same, ha]
    · rw [upd_ne hb]
  rw [eu] at J0
  have J := J0.pins_of (pins' := []) (fun p hp => by cases hp)
  have ps : PSs (supCx P w K mg base f qual fI cda cc A outer s H) [.Assign [.Attribute (.Name "self" p5) f p6] (.Name f p7) p8] _ := pss_one (ps_ost (pe_var (i := 0) (x := "self") rfl (.inl rfl) (by decide) (by decide)) (pe_var (i := 1) (x := f) rfl (.inl l_f) hfd hfcd))
  show PySem.wpAt _ _ _ (execs [.Assign [.Attribute (.Name "self" p5) f p6] (.Name f p7) p8] _) _ _ _
  refine wpAt_of_wpAny (wpAny_mono (ps.run [] _ _ H { nx := fun _ H' => Q .non H', rt := fun _ _ => False } J ⟨v, rfl, .ref a, rfl, a, C, rfl, T.oex, T.noF, .inl ⟨ha, fun dx n ne => q dx n ne⟩⟩) (fun fl s' hs => ?_) (fun _ _ z => z.elim))
  cases fl with
  | next =>
    obtain ⟨σ', H', J', q'⟩ := hs
    exact ⟨.non, H', J'.os, J'.bare, J'.base, J'.hok, rfl, q'⟩
  | ret u =>
    obtain ⟨_, _, _, _, _, z⟩ := hs
    exact z.elim
  | brk =>
    obtain ⟨_, _, _, z⟩ := hs
    exact z.elim
  | cont =>
    obtain ⟨_, _, _, z⟩ := hs
    exact z.elim
end
end Pw
namespace Pw
open PySem PySem.Spec PyProof.Rows L2
/-- an own error class x with the field f: all that raising and catching it asks -/
structure ErrOk (P : Program) (w : World) (K : PySem.W.Frag) (mg : Str → Option Value) (base : Heap) (x f : Str) (C : Addr) (Okv : V → Prop) : Prop where
  oex : OexC K C
  mgC : mg x = some (.ref C)
  ini : ∃ (fI : Addr) (fd : FuncData), FnOk P w K mg base CX0 1 fI fd ["self", f] (spSup C f Okv) ∧ Binds K fd ["self", f] [] ∧ PySem.W.findIn K (.ref C) "__init__" = some (some (.ref fI)) ∧ PySem.W.typeIn K (.ref fI) = some (.type "function")
theorem pmk_err {X : Cx} {x f : Str} {C : Addr} {Okv : V → Prop} {e : Expr} {te : TE} {p pos : Pos} (T : ErrOk X.prog X.w X.K X.mg X.base x f C Okv) (hr : Room 2 X.A) (hg : Gl X x) (he : PE X e te) (hs : starEach [e] X.env = [(false, eval e X.env)] := by rfl)
    (hdb : (x == ("__debug__" : Str)) = false := by decide) : PMk X (.Call (.Name x p) [e] [] pos) (tMkO C (spSup C f Okv) [] (tCons te tNil)) := by
  obtain ⟨fI, fd, F1, hb, iC, tI⟩ := T.ini
  exact pmk_oex (dvs := []) T.oex iC tI F1 hr hb .nil (fun _ _ _ _ _ _ _ z => z.elim) hg T.mgC (pa_cons he pa_nil hs) hdb hs rfl
/-- the reading's end: the argument is v -/
theorem err_read {C : Addr} {f : Str} {Okv : V → Prop} {Q : XK} {v : V} {H1 : Hp} (hv : Okv v) (hq : ∀ d H2, Same H1 H2 → H1 d = none → H2 d = some (.xd [(f, v)]) → Q (.ref C) (some d) H2) :
    ([v] : List V).length ≤ 1000 ∧ ∀ a, H1 a = none → spSup C f Okv (.ref a :: ([v] ++ [])) (upd H1 a (exo a C none))
      (fun v2 H2 => v2 = .non ∧ ∃ (d : Addr) (fs : List (Str × V)), H2 a = some (exo a C (some d)) ∧ H2 d = some (exd d fs) ∧ H1 d = none ∧ Q (.ref C) (some d) (upd (del H2 a) d (.xd fs))) (fun _ _ _ => False) := by
  refine ⟨by show 1 ≤ 1000; decide, fun a na => ⟨a, v, rfl, hv, upd_same, fun dx nd ne => ⟨rfl, dx, [(f, v)], upd_same, ?_, ?_, ?_⟩⟩⟩
  · rw [upd_ne ne, upd_same]
  · rw [upd_ne ne] at nd
    exact nd
  · have nd1 : H1 dx = none := by
      rw [upd_ne ne] at nd
      exact nd
    refine hq dx _ (fun b o e => ?_) nd1 upd_same
    have b1 : b ≠ a := ne_of_none e na
    have b2 : b ≠ dx := ne_of_none e nd1
    rw [upd_ne b2, del_ne b1, upd_ne b1, upd_ne b2, upd_ne b1]
    exact e
end Pw

set_option Elab.async false
set_option linter.all false
set_option maxRecDepth 100000
set_option maxHeartbeats 2000000
namespace Pw
open PySem PySem.Spec PyProof.Rows L2
/-- the ends within a clause whose name is slot i -/
def asEnds (D : Ends) (i : Nat) : Ends := { nx := fun τ G => D.nx (τ.set i none) G, rt := D.rt, bk := fun τ G => D.bk (τ.set i none) G, ct := fun τ G => D.ct (τ.set i none) G }
/-- several clauses, each `except x as n`, n in slot i -/
def wAll (K : PySem.W.Frag) (i : Nat) (Wo : WX) (D : Ends) : List (Value × (Addr → Value → Option Addr → TS)) → WX
  | [] => Wo
  | (c, ts) :: r => fun cls dd τ G => ∃ b, PySem.W.exmOne K cls c = some b ∧ (b = true → ∀ a, G a = none → ts a cls dd (asEnds D i) (τ.set i (some (.ref a))) G) ∧ (b = false → wAll K i Wo D r cls dd τ G)
inductive AsOk (X : Cx) (n : Str) : List ExceptHandler → List (Value × (Addr → Value → Option Addr → TS)) → Prop
  | nil : AsOk X n [] []
  | cons {x : Str} {c : Value} {ts : Addr → Value → Option Addr → TS} {b0 : Stmt} {su : List Stmt} {p1 p2 : Pos} {hs : List ExceptHandler} {l : List (Value × (Addr → Value → Option Addr → TS))} (hc : Names X x c)
      (hsu : ∀ (a : Addr) (oe : Obj) (cls : Value) (dd : Option Addr) (pn : List (Addr × Obj)), Zc cls dd oe → (∃ vs, oe.data = .fields vs) → PSs (X.suite a ((a, oe) :: pn)) (b0 :: su) (ts a cls dd)) (r : AsOk X n hs l) :
      AsOk X n (.ExceptHandler (some (.Name x p1)) (some n) (b0 :: su) p2 :: hs) ((c, ts) :: l)
section
variable {X : Cx} {n : Str} {i : Nat} {body : List Stmt} {h0 : ExceptHandler} {hds : List ExceptHandler} {l : List (Value × (Addr → Value → Option Addr → TS))} {pos : Pos} {tb : WX → TS} {Wo : WX}
theorem ps_tryAll (hs : X.stack = X.env :: X.outer) (hf : X.env.frame = some X.env.locals) (hN : X.N.Nodup) (hi : X.N[i]? = some n) (hln : X.env.kindOf n = some .local) (tk : Takes X Wo)
    (hb : ∀ (W : WX) (pn : List (Addr × Obj)) (xe : Value → Shared → Prop), Takes (X.tr pn xe) W → PassesOwn (model X.prog X.w) X.A X.env xe → PSs (X.tr pn xe) body (tb W))
    (hh : AsOk X n (h0 :: hds) l) : PS X (.Try body (h0 :: hds) [] [] pos) (fun D τ G => tb (wAll X.K i Wo D l) D τ G) := by
  refine ⟨fun pns s τ G D I h => ?_⟩
  have xok := I.ok
  have xfr : X.A.frames = some (X.env :: X.outer) := by rw [xok.frames, hs]
  have xloc : Loc X.env.scope n := .inl hln
  refine wpAny_Try_except (wpAny_mono ((hb (wAll X.K i Wo D l) (X.pn ++ pns) (fun e s1 => wpAny (model X.prog X.w) X.A (noteFrame e X.env) (fun _ s2 => wpAny (model X.prog X.w) X.A (setFlight e none) (fun _ s3 =>
    wpAny (model X.prog X.w) X.A (handleBy e X.env (h0 :: hds)) (SP X pns D) X.xe s3) X.xe s2) X.xe s1) (fun u s' xx => ?_) PassesOwn.looking).run [] s τ G D (I.toTry _) h) (fun f s1 hsp => ?_) (fun e s1 he => he))
  · obtain ⟨a, B, sI, pns', τ', G', cls, dd, rfl, Jt, nb, up, sky, na, os, ag, ww⟩ := xx
    have J : Inv X pns τ' G' sI := Jt.ofTry xok
    have sky1 : Sky B (X.env :: X.outer) a (Zc cls dd) X.env.locals s'.heap := by rw [← hs]; exact sky
    show wpAny (model X.prog X.w) X.A (noteFrame (.ref a) X.env) _ _ _
    refine Sky.land Zc.steady xfr hf sky1 fun k3 fl3 up3 => ?_
    have J3 : Inv X pns τ' G' { s' with heap := k3 } := J.landed nb fl3.1 (up.trans up3) os ag
    obtain ⟨ob3, vs3, he3, hz3, hd3⟩ := fl3.there
    have nfr : a ∉ frs (X.env :: X.outer) := fun hm => by
      obtain ⟨_, oo, ee, hnf⟩ := fl3.2.2.1.mem hm
      rw [he3] at ee
      cases ee
      exact hnf _ hd3
    have nL : a ≠ X.env.locals := fun z => nfr (List.mem_filterMap.mpr ⟨X.env, List.mem_cons_self, by rw [hf, z]⟩)
    have nF : a ∉ X.fs := fun hm => by
      obtain ⟨e, he, qq⟩ := List.mem_filterMap.mp hm
      exact nfr (List.mem_filterMap.mpr ⟨e, List.mem_cons_of_mem _ he, qq⟩)
    have S3 := J3.suite he3 hd3 na nL nF
    have go : ∀ {hs' : List ExceptHandler} {l' : List (Value × (Addr → Value → Option Addr → TS))}, AsOk X n hs' l' → wAll X.K i Wo D l' cls dd τ' G' →
        wpAny (model X.prog X.w) X.A (handleBy (.ref a) X.env hs') (SP X pns D) X.xe { s' with heap := k3 } := by
      intro hs' l' hk
      induction hk with
      | nil =>
        intro ww
        refine wpAny_handleBy_nil ?_
        obtain ⟨_, _, _, ob, vs, T, oT, ts', he, hz, hd, h1, hr⟩ := id fl3
        unfold PySem.passOn
        refine wpAny_bind (wpAny_field he hd h1 ?_)
        rw [if_neg (show ¬ ((Value.ref T == Value.none) = true) from by simp)]
        have fin : wpAny (model X.prog X.w) X.A (setFlight (.ref a) X.env.frame) (fun _ s4 => wpAny (model X.prog X.w) X.A (throw (.ref a) : Sem Flow) (SP X pns D) X.xe s4) X.xe { s' with heap := k3 } := by
          rw [hf]
          exact HandSPX.setFlight_upZ fl3 fun k4 hh4 up4 => wpAny_throw (tk _ _ ⟨a, B, sI, pns, τ', G', cls, dd, rfl, J, nb, (up.trans up3).trans up4, .inr (.inr (by rw [hs]; exact hh4)), na, os, ag, ww⟩)
        first
          | exact wpAny_bind (wpAny_pure (wpAny_bind fin))
          | exact wpAny_bind fin
      | @cons x c ts b0 su p1 p2 hs2 l2 hc hsu r ih =>
        intro ww
        obtain ⟨b, hb1, hyes, hno⟩ := ww
        refine wpAny_handleBy_cons (codeAny_handlers_test ?_) (by intro q; cases q)
        have LT : PySem.W.Looks (model X.prog X.w) k3 (typeOf (.ref a)) cls := fun A Q E s k q => wpAny_typeOf_ref (k _ _ he3) (by rw [hz3.1]; exact q)
        have LM := PySem.W.exm_one (M := model X.prog X.w) (J3.kIn) LT hb1
        have test : ∀ {Q : Value → Shared → Prop} {E : Value → Shared → Prop}, Q c { s' with heap := k3 } → wpAny (model X.prog X.w) (X.A.mark (some (.ref a))) (eval (.Name x p1) X.env) Q E { s' with heap := k3 } := fun {Q E} q => by
          obtain ⟨hg, hdbg, hm | ⟨hm, hv, hnn⟩⟩ := hc
          · exact ld_glob (X := X.suite a ((a, ob3) :: (X.pn ++ pns))) S3 hg hm q hdbg
          · exact ld_blt (X := X.suite a ((a, ob3) :: (X.pn ++ pns))) S3 hg hm hv q hnn hdbg
        refine test (LM.here ?_)
        cases b with
        | true =>
          refine codeAny_handlers_suite_as ?_
          refine HandSPX.lands_againZ fl3 fun k4 fl4 up4 => ?_
          have J4 : Inv X pns τ' G' { s' with heap := k4 } := J.landed nb fl4.1 ((up.trans up3).trans up4) os ag
          obtain ⟨ob4, vs4, he4, hz4, hd4⟩ := fl4.there
          have S4 := J4.suite he4 hd4 na nL nF
          refine store_ok (X := X.suite a ((a, ob4) :: (X.pn ++ pns))) (v := .ref a) S4 hN hi xloc rfl (fun s5 S5 => ?_) (.inr hln)
          refine wpAny_mono ((hsu a ob4 cls dd (X.pn ++ pns) hz4 ⟨_, hd4⟩).run [] s5 _ G' _ S5 (hyes rfl a na)) (fun f s6 hsp => ?_) (fun _ _ z => False.elim z)
          have en : ∀ {τ6 : L2.St} {G6 : Hp} {Q : Shared → Prop}, Inv (X.suite a ((a, ob4) :: (X.pn ++ pns))) [] τ6 G6 s6 → (∀ s7, Inv X pns (τ6.set i none) G6 s7 → Q s7) →
              wpAny (model X.prog X.w) X.A (do bindName X.env n .none; unbindBehindTheSuite X.env n p2) (fun _ s7 => Q s7) X.xe s6 := fun {τ6 G6 Q} S6 hq => gone_ok (S6.unsuite xok) hN hi hln hq
          cases f with
          | next =>
            obtain ⟨τ6, G6, S6, q6⟩ := hsp
            exact en S6 fun s7 J7 => ⟨_, _, J7, q6⟩
          | brk =>
            obtain ⟨τ6, G6, S6, q6⟩ := hsp
            exact en S6 fun s7 J7 => ⟨_, _, J7, q6⟩
          | cont =>
            obtain ⟨τ6, G6, S6, q6⟩ := hsp
            exact en S6 fun s7 J7 => ⟨_, _, J7, q6⟩
          | ret u =>
            obtain ⟨v6, τ6, G6, S6, r6, q6⟩ := hsp
            exact en S6 fun s7 J7 => ⟨_, _, _, J7, r6, q6⟩
        | false =>
          show wpAny _ X.A (handleBy (.ref a) X.env hs2) _ _ _
          exact ih (hno rfl)
    exact go hh ww
  · cases f with
    | next =>
      obtain ⟨τ', G', Jt, q⟩ := hsp
      exact wpAny_execs_nil ⟨τ', G', Jt.ofTry xok, q⟩
    | brk =>
      obtain ⟨τ', G', Jt, q⟩ := hsp
      exact ⟨τ', G', Jt.ofTry xok, q⟩
    | cont =>
      obtain ⟨τ', G', Jt, q⟩ := hsp
      exact ⟨τ', G', Jt.ofTry xok, q⟩
    | ret u =>
      obtain ⟨v, τ', G', Jt, r, q⟩ := hsp
      exact ⟨v, τ', G', Jt.ofTry xok, r, q⟩
end
end Pw

set_option Elab.async false
set_option linter.all false
set_option maxRecDepth 100000
set_option maxHeartbeats 2000000
namespace Pw
open PySem PySem.Spec PyProof.Rows L2 LamX
section
variable {X : Cx} {pins : List (Addr × Obj)} {σ : L2.St} {H HZ : Hp} {s s1 : Shared}
/-- x() in the def that got the lambda; what the lambda lets out is wished for at the slots as they stand -/
theorem pe_actW {CXg : CXT} {Eg : XK} {Ng : List Str} {qg : Str} {sg : Scope} {g f c' : Addr} {cdg pm ctv : Value} {params : Arguments} {body : Expr} {scope : Scope} {k i : Nat} {a : Str} {pn : List (Addr × Obj)} {xe : Value → Shared → Prop} {W : WX} {tb : XK → TE} {p1 p2 : Pos}
    (I : Inv X pins σ H s) (L : LamS X.env.scope scope) (hf : s.heap.get? f = some (PySem.W.kla_obj "<lambda>" (X.env.qual ++ "<lambda>") params body scope (cloFrom X.env.cells scope.names []) pm c' ctv)) (hfn : H f = none) (hfr : f ∉ frs X.stack)
    (hbind : bindArgs (PySem.W.kla_fn "<lambda>" (X.env.qual ++ "<lambda>") params body scope (cloFrom X.env.cells scope.names []) pm (.ref c') ctv) ⟨[], []⟩ = pure [])
    (tk : Takes ((cxOf CXg X.prog X.w X.K X.mg X.base Ng qg sg g cdg X.A X.stack s H Eg).tr pn xe) W) (hr : Room (k + 1) (X.A.deeper (envOfC qg sg s.heap.objs.size g cdg)))
    (hbody : ∀ (A : Around) (outer : List Env) (s : Shared) (H : Hp) (E : XK), Room k (A.deeper (lamEnv X scope s.heap.objs.size f c')) → PE (lamCx X A outer s H E scope f c') body (tb E))
    (hN : Ng[i]? = some a) (hv : Vis sg a) (hd : (a == ("__debug__" : Str)) = false := by decide) (hcd : (a == ("__classdict__" : Str)) = false := by decide) :
    PE ((cxOf CXg X.prog X.w X.K X.mg X.base Ng qg sg g cdg X.A X.stack s H Eg).tr pn xe) (.Call (.Name a p1) [] [] p2)
      (fun σZ HZ Q => ∃ (E : XK) (Q' : VK), (∀ cls dd G, E cls dd G → W cls dd σZ G) ∧ (∀ v G, Q' v G → Q v G) ∧ σZ[i]? = some (some (.ref f)) ∧ HZ c' = some (CodeO c' (X.env.qual ++ "<lambda>")) ∧ tb E σ HZ Q') := by
  refine ⟨fun pZ sZ σZ HZ Q IZ h => ?_⟩
  obtain ⟨E, Q', hE, hQ, hs, hc, ht⟩ := h
  refine wpAny_Call_Name_kw (thn ((pe_var (pos := p1) (i := i) hN hv hd hcd).run pZ sZ σZ HZ (fun v H1 => v = .ref f ∧ H1 = HZ) IZ ⟨.ref f, hs, rfl, rfl⟩) fun u s1 ⟨v, H1, I1, r1, q1⟩ => ?_)
  obtain ⟨ev, eH⟩ := q1
  subst ev
  rw [eH] at I1
  obtain rfl : u = Value.ref f := r1
  have of1 : s1.heap.get? f = some (PySem.W.kla_obj "<lambda>" (X.env.qual ++ "<lambda>") params body scope (cloFrom X.env.cells scope.names []) pm c' ctv) := I1.base.keep f _ hf hfn hfr (fun z => nomatch (show f ∈ ([] : List Addr) from z))
  refine PySem.W.callWith_F0 ⟨_, _, _, _, of1⟩ ?_
  have un1 : Un (frs X.stack) [] H HZ s.heap s1.heap := I1.base
  obtain ⟨⟨oc, vs, t, hoc, hdc, hvc⟩, _, _⟩ := I1.hok c' _ hc
  have rc : codeAny (model X.prog X.w) (X.A.deeper (envOfC qg sg s.heap.objs.size g cdg)) (.call (.ref f) ⟨[], []⟩) (CR (L2.CX X.prog X.w) (envOfC qg sg s.heap.objs.size g cdg :: X.stack) X.prog X.w HZ s1 Q' E) s1 := by
    refine PySem.W.kla_callFunE hr.depth of1 rfl L.co L.gen rfl ⟨c', oc, vs, t, rfl, hoc, hdc, hvc⟩ ?_
    rw [hbind]
    refine wpAny_pure (wpAny_newFunctionEnv (fun y hy => (L.own y hy).2) (fun y hy => absurd hy (by simp)) (fun h₁ hns hsb => ⟨I1.nolimit.fresh _ hsb, ?_⟩) L.kind)
    show codeAny _ _ (.expr body (lamEnv X scope s1.heap.objs.size f c')) _ _
    have kp : ∀ b o, s1.heap.get? b = some o → h₁.get? b = some o := fun b o e => hsb.extBut b o (Nat.ne_of_lt (Heap.lt_size e)) (Heap.get?_push_of_some _ e)
    have J : Inv (lamCx X (X.A.deeper (envOfC qg sg s.heap.objs.size g cdg)) (envOfC qg sg s.heap.objs.size g cdg :: X.stack) s1 HZ E scope f c') [] σ HZ { s1 with heap := h₁, toks := s1.toks + ([] : List (Str × Value)).length } := lam_start2 I L I1.env0 hr.hd un1 hns kp
    refine PySem.W.kla_codeExpr (wpAny_mono ((hbody _ _ s1 HZ E (hr.deeper _)).run [] _ _ HZ Q' J ht) (fun v s' hq => ?_) fun e s' hq => hq)
    obtain ⟨w', G, J', rv, q⟩ := hq
    exact ⟨w', G, J'.os, J'.bare, J'.base, J'.hok, rv, q⟩
  refine wpAny_call (codeAny_mono rc fun r s' hq => ?_)
  cases r with
  | error e => exact tk e s' (XE.of_call I1 hE hq)
  | ok fl =>
    cases fl with
    | ret u =>
      obtain ⟨v, G, J, rv, q⟩ := I1.after hq
      exact ⟨v, G, J, rv, hQ v G q⟩
    | next => exact False.elim hq
    | brk => exact False.elim hq
    | cont => exact False.elim hq
end
/-- the def g(a) that calls what it got -/
def GivesW (X : Cx) (Ng : List Str) (x : Str) (sg : Scope) (g : Addr) (cdg : Value) (bg : List Stmt) (a : Str) (q : Str) (TT : (XK → Hp → VK → Prop) → Hp → VK → Prop) : Prop :=
  ∀ (f c' : Addr) (s : Shared) (H : Hp) (Q : VK) (tl : XK → Hp → VK → Prop),
    (∀ (W : WX) (pn : List (Addr × Obj)) (xe : Value → Shared → Prop) (p1 p2 : Pos), Takes ((cxOf C8.CX0 X.prog X.w X.K X.mg X.base Ng x sg g cdg X.A X.stack s H C8.E0).tr pn xe) W →
      PE ((cxOf C8.CX0 X.prog X.w X.K X.mg X.base Ng x sg g cdg X.A X.stack s H C8.E0).tr pn xe) (.Call (.Name a p1) [] [] p2)
        (fun σZ HZ Q => ∃ (E : XK) (Q' : VK), (∀ cls dd G, E cls dd G → W cls dd σZ G) ∧ (∀ v G, Q' v G → Q v G) ∧ σZ[0]? = some (some (.ref f)) ∧ HZ c' = some (CodeO c' q) ∧ tl E HZ Q')) →
    H c' = some (CodeO c' q) → TT tl H Q →
    ∃ t, PSs (cxOf C8.CX0 X.prog X.w X.K X.mg X.base Ng x sg g cdg X.A X.stack s H C8.E0).nox bg t ∧ t { nx := fun _ G => Q .non G, rt := Q } (L2.start Ng [.ref f]) H
section
variable {X : Cx}
/-- g(lambda: body) -/
theorem pe_lamW {T : List (Addr × Str)} {TT : (XK → Hp → VK → Prop) → Hp → VK → Prop} {x a : Str} {g c P : Addr} {k : Nat} {pg : Arguments} {bg : List Stmt} {sg : Scope} {dV kV doc pm cdv ct oc : Value} {an od : Option Addr} {osl : Array (Option Value)} {Ng : List Str}
    {params : Arguments} {body : Expr} {scope : Scope} {t : XK → TE} {p lpos pos : Pos} (hg : Gl X x) (hm : X.mg x = some (.ref g)) (hk : PySem.W.keepIn X.K (.ref g) = true)
    (lk : X.K.lookup g = some ⟨oc, od, .func (PySem.W.fnOf x x pg bg sg dV kV doc pm an cdv ct), osl⟩) (hcg : PySem.W.codeIn X.K cdv x = true) (hb : L2.Binds X.K (PySem.W.fnOf x x pg bg sg dV kV doc pm an cdv ct) [a] []) (Sg : FnScope Ng [a] sg) (hNg : Ng[0]? = some a) (hva : Vis sg a)
    (hG : GivesW X Ng x sg g cdv bg a (X.env.qual ++ "<lambda>") TT)
    (TB : TabB X.base X.mg c P) (hcode : X.env.code = .ref c) (hmT : (P, X.env.qual ++ "<lambda>") ∈ T) (hu : ∀ p ∈ T, p.1 = P → p.2 = X.env.qual ++ "<lambda>") (hr : Room (k + 2) X.A) (L : LamS X.env.scope scope) (hdef : defaultsOf params X.env = ([], []))
    (hbind : ∀ (q : Str) (cl : List (Str × Addr)) (pm cv ctv : Value), bindArgs (PySem.W.kla_fn "<lambda>" q params body scope cl pm cv ctv) ⟨[], []⟩ = pure [])
    (hbody : ∀ (A : Around) (outer : List Env) (s : Shared) (H : Hp) (E : XK) (f c' : Addr), Room k (A.deeper (lamEnv X scope s.heap.objs.size f c')) → PE (lamCx X A outer s H E scope f c') body (t E))
    (hdb : (x == ("__debug__" : Str)) = false := by decide) (hd : (a == ("__debug__" : Str)) = false := by decide) (hcd : (a == ("__classdict__" : Str)) = false := by decide) :
    PE X (.Call (.Name x p) [.Lambda params body scope lpos] [] pos) (tLam T TT t) := by
  refine ⟨fun pns s τ G Q I h => ?_⟩
  obtain ⟨hT, h⟩ := h
  refine wpAny_Call_Name_kw (ld_glob I hg hm (PySem.W.callWith_K (h₀ := X.base) I.ok.mod.kin hk ?_ (by rfl) (by rfl)) hdb)
  show wpAny _ _ (spliced ((false, eval (.Lambda params body scope lpos) X.env) :: backTo pos (starEach [] X.env))) _ _ s
  refine Calls.spliced_cons (lam_make2 I TB hcode hmT hu hT hdef (L.has I.ok) fun f c' pm' ctv H1 s' I1 eN T1 hf hfn hfr hco => Calls.spliced_nil ⟨I1.kIn, ?_⟩)
  have rc : codeAny (model X.prog X.w) X.A (.call (.ref g) ⟨[.ref f], []⟩) (CR C8.CX0 X.stack X.prog X.w H1 s' Q C8.E0) s' := by
    refine run_ofS (N := Ng) (ps := [a]) (us := [.ref f]) (vs := [.ref f]) lk hcg Sg hr I1.env0 (hb s' [.ref f] I1.kIn rfl) (.cons rfl .nil) rfl fun hr' => ?_
    obtain ⟨t', ht', hq'⟩ := hG f c' s' H1 Q (fun E G' Q' => t E τ G' Q') (fun W pn xe p1 p2 tk => pe_actW (i := 0) I1 L hf hfn hfr (hbind _ _ _ _ _) tk hr' (fun A outer s H E hr2 => hbody A outer s H E f c' hr2) hNg hva hd hcd) hco (h H1 eN T1)
    exact ⟨t', ht'.nox, hq'⟩
  refine wpAny_call (codeAny_mono rc fun r s2 hq => ?_)
  cases r with
  | error e => exact (show False from hq).elim
  | ok fl =>
    cases fl with
    | ret u => exact I1.after hq
    | next => exact False.elim hq
    | brk => exact False.elim hq
    | cont => exact False.elim hq
/-- behind the try of why: return (told, word) -/
def whyEnds (Q : VK) : Ends := { nx := tRet (tTup (tCons (tVar 1) (tCons (tVar 2) tNil))) { nx := fun _ G => Q .non G, rt := Q }, rt := Q }
/-- told = None; word = ''; try: told = a() / except .. as e: ..; return (told, word) -/
def TTwhy (K : PySem.W.Frag) (l : List (Value × (Addr → Value → Option Addr → TS))) : (XK → Hp → VK → Prop) → Hp → VK → Prop := fun tl H Q =>
  ∃ (E : XK) (Q' : VK), (∀ (f : Addr) cls dd G, E cls dd G → wAll K 3 (fun _ _ _ _ => False) (whyEnds Q) l cls dd [some (.ref f), some .non, some (.str ""), none] G) ∧
    (∀ v G, Q' v G → ∀ p, G p = none → Q (.ref p) (upd G p (.tup [v, .str ""]))) ∧ tl E H Q'
theorem why_gives {x a tn wn en q : Str} {sg : Scope} {g : Addr} {cdg : Value} {j1 j2 : Nat} {j3 : Nat} {h0 : ExceptHandler} {hds : List ExceptHandler} {l : List (Value × (Addr → Value → Option Addr → TS))} {p1 p2 p3 p4 p5 p6 p7 p8 p9 p10 p11 p12 p13 p14 p15 : Pos}
    (S : FnScope [a, tn, wn, en] [a] sg) (k1 : sg.names.lookup tn = some .local) (k2 : sg.names.lookup wn = some .local) (k3 : sg.names.lookup en = some .local)
    (d1 : (tn == ("__debug__" : Str)) = false) (d2 : (tn == ("__classdict__" : Str)) = false) (d3 : (wn == ("__debug__" : Str)) = false) (d4 : (wn == ("__classdict__" : Str)) = false)
    (hcl : ∀ (s : Shared) (H : Hp), AsOk (cxOf C8.CX0 X.prog X.w X.K X.mg X.base [a, tn, wn, en] x sg g cdg X.A X.stack s H C8.E0).nox en (h0 :: hds) l) :
    GivesW X [a, tn, wn, en] x sg g cdg [.Assign [.Name tn p1] (.Constant .none j1 p2) p3, .Assign [.Name wn p4] (.Constant (.str "") j2 p5) p6, .Try [.Assign [.Name tn p7] (.Call (.Name a p8) [] [] p9) p10] (h0 :: hds) [] [] p11, .Return (some (.Tuple [.Name tn p12, .Name wn p13] j3 p14)) p15] a q (TTwhy X.K l) := by
  intro f c' s H Q tl act hc h
  obtain ⟨E, Q', hE, hQ, h⟩ := h
  refine ⟨_, pss_cons (ps_set (i := 1) S.nd rfl (.inl k1) pe_non) (pss_cons (ps_set (i := 2) S.nd rfl (.inl k2) pe_str)
    (pss_cons (ps_tryAll (i := 3) (n := en) (Wo := fun _ _ _ _ => False) (tb := fun W => tAsg (fun σZ HZ Q => ∃ (E : XK) (Q' : VK), (∀ cls dd G, E cls dd G → W cls dd σZ G) ∧ (∀ v G, Q' v G → Q v G) ∧ σZ[0]? = some (some (.ref f)) ∧ HZ c' = some (CodeO c' q) ∧ tl E HZ Q') (gName 1)) rfl rfl S.nd rfl k3
      (fun _ _ z => by obtain ⟨_, _, _, _, _, _, _, _, _, _, _, _, _, _, _, _, z⟩ := z; exact z.elim)
      (fun W pn xe tk _ => pss_one (ps_set (i := 1) S.nd rfl (.inl k1) (act W pn xe p8 p9 tk))) (hcl s H))
    (pss_one (ps_ret (pe_tup (pa_cons (pe_var (i := 1) rfl (.inl k1) d1 d2) (pa_cons (pe_var (i := 2) rfl (.inl k2) d3 d4) pa_nil))))))), ?_⟩
  refine ⟨E, Q', fun cls dd G e => hE f cls dd G e, fun v G q => ?_, rfl, hc, h⟩
  exact ⟨v, rfl, .str "", rfl, by show 2 ≤ sizeLine; decide, fun p hp => hQ v G q p hp⟩
end
end Pw

set_option Elab.async false
set_option linter.all false
set_option maxRecDepth 100000
set_option maxHeartbeats 2000000
namespace Pw
open PySem PySem.Spec PyProof.Rows L2
/-- enumerate(text): each sign in a new pair with its place -/
def Ites (x : Str) : It := ⟨fun i _ => i < x.cps.size, fun i H v H' => ∃ T c, v = .ref T ∧ H T = none ∧ x.cps[i]? = some c ∧ H' = upd H T (.tup [.int (i : Nat), .str ⟨#[c]⟩]), fun i _ => x.cps.size ≤ i⟩
theorem turn_enumS {P : Program} {w : World} {K : PySem.W.Frag} {elts : List Expr} {kk : Nat} {tpos : Pos} (x : Str) (t : Tok) (e it : Addr) :
    Turn P w K (.Tuple elts kk tpos) (Ites x) [e, it] e (fun i h => i ≤ x.cps.size ∧ (∃ old, IsEnum h e it ((i : Nat) : Int) old) ∧ h.IsStrIter it (strIterType x) x t i ∧ e ≠ it) where
  mem := by simp
  obj := fun i h st b hb => by
    obtain ⟨_, ⟨old, he⟩, ⟨o, ho, hc, hd⟩, _⟩ := st
    have e' : b = e ∨ b = it := by simpa using hb
    rcases e' with z | z
    · rw [z]
      exact ⟨_, he, fun v q => nomatch q⟩
    · rw [z]
      exact ⟨o, ho, fun v q => by rw [hd] at q; cases q⟩
  keep := fun i h h' st k => let ⟨hn, ⟨old, he⟩, ⟨o, ho, r⟩, hne⟩ := st; ⟨hn, ⟨old, k e (by simp) _ he⟩, ⟨o, k it (by simp) o ho, r⟩, hne⟩
  item := by
    intro X hP hw hK hc i pins s σ H E I hf st hg
    subst hP hw hK
    obtain ⟨_, ⟨old, he⟩, hit, hne⟩ := st
    have hel : e < s.heap.objs.size := Heap.lt_size he
    have hil : it < s.heap.objs.size := by obtain ⟨_, q, _⟩ := hit; exact Heap.lt_size q
    have Dr := Draws.text (prog := X.prog) (w := X.w) (A := X.A.in1) (show X.A.in1.handled = none from I.ok.hd hc) it x t
    refine wpAny_pyNext_enum_itemD Dr he hit hg hne (by simpa using hne) fun u h' tk hu ho hit' hT hsz hk => ?_
    obtain ⟨c, tc, hcx, rfl⟩ := hu
    refine ⟨_, rfl, wpAny_letOwnedTupleGo_enum (s := { s with heap := h', toks := tk + 1 }) ho fun h'' he' sb => ?_⟩
    have hT2 : h''.get? s.heap.objs.size = some { cls := .type "tuple", data := .seq #[.int i tk, .str ⟨#[c]⟩ tc] } := (sb.2 _ (Nat.ne_of_gt hel)).trans hT
    have new : ObjOk X.prog X.w (upd H s.heap.objs.size (.tup [.int (i : Nat), .str ⟨#[c]⟩])) h'' s.heap.objs.size (.tup [.int (i : Nat), .str ⟨#[c]⟩]) :=
      ⟨by show 2 ≤ sizeLine; decide, [.int i tk, .str ⟨#[c]⟩ tc], .cons ⟨_, rfl⟩ (.cons ⟨_, rfl⟩ .nil), ⟨_, hT2, rfl, _, rfl⟩⟩
    have I1 : Inv X pins σ (upd H s.heap.objs.size (.tup [.int (i : Nat), .str ⟨#[c]⟩])) { s with heap := h'', toks := tk + 1 } :=
      I.turnedNew (ch := [e, it]) (fun b ob hb q => (sb.2 b (fun z => hb (by simp [z]))).trans (hk b ob (fun z => hb (by simp [z])) (fun z => hb (by simp [z])) q)) hf (Nat.le_refl _) new
    obtain ⟨oi, ei, ri⟩ := hit'
    refine ⟨.ref s.heap.objs.size, _, I1, rfl, ⟨_, c, rfl, I.hok.fresh (Nat.le_refl _), hcx, rfl⟩, ⟨hg, ⟨.str ⟨#[c]⟩ tc, ?_⟩, ⟨oi, (sb.2 it (Ne.symm hne)).trans ei, ri⟩, hne⟩, fun b hb => ?_⟩
    · have e1 : ((i + 1 : Nat) : Int) = (i : Int) + 1 := by omega
      rw [e1]
      exact he'
    · have hb' : b < s.heap.objs.size := by
        have e' : b = e ∨ b = it := by simpa using hb
        rcases e' with z | z
        · rw [z]
          exact hel
        · rw [z]
          exact hil
      rw [upd_ne (Nat.ne_of_lt hb')]
      exact (hf b hb).1
  done := by
    intro X hP hw hK hc i pins s σ H E I hf st hg
    subst hP hw hK
    obtain ⟨hn, ⟨old, he⟩, hit, hne⟩ := st
    have hg : x.cps.size ≤ i := hg
    obtain rfl : i = x.cps.size := by omega
    obtain ⟨f0, f1, f2, f3, f4, f5⟩ := hf it (by simp)
    have Dr := Draws.text (prog := X.prog) (w := X.w) (A := X.A.in1) (show X.A.in1.handled = none from I.ok.hd hc) it x t
    exact wpAny_pyNext_enum_endD Dr he hit fun h' eb => ⟨rfl, I.turned (t' := s.toks) (fun b o hb q => eb b o hb q) f0 f1 f3 f4 f5⟩
  self := fun A i s Q E st h => let ⟨_, ⟨_, he⟩, _⟩ := st; wpAny_pyIter_enum he h
def iEnumS (ta : TA) : TI := fun σ H R => ta σ H fun vs H1 => ∃ x, vs = [.str x] ∧ R (Ites x) H1
theorem pi_enumS {X : Cx} {e : Expr} {ta : TA} {p pos tpos : Pos} {elts : List Expr} {kk : Nat} (hg : Gl X "enumerate") (hm : X.mg "enumerate" = none) (ha : PA X [e] ta) (hs : starEach [e] X.env = [(false, eval e X.env)] := by rfl) :
    PI X (.Tuple elts kk tpos) (.Call (.Name "enumerate" p) [e] [] pos) (iEnumS ta) := by
  refine ⟨fun pns s τ G R I h => ?_⟩
  refine Call_ (ld_blt I hg hm boot_enumerate (PyProof.Rows.callWith_type1 (thn (ha.run pos pns s τ G _ I h) fun us s1 ⟨vs, H1, I1, r1, q1⟩ => ?_) hs rfl))
  obtain ⟨x, ex, q⟩ := q1
  subst ex
  cases r1 with
  | cons r rr =>
    cases rr
    obtain ⟨t, rfl⟩ := r
    refine call_enumerate_str fun h' he hit hsz hk => wpAny_pyIter_enum he ?_
    have I2 : Inv X pns τ H1 { s1 with heap := h' } := I1.kept (t' := s1.toks) hk
    refine ⟨s1.heap.objs.size + 1, [s1.heap.objs.size + 1, s1.heap.objs.size], _, _, H1, rfl, I2, turn_enumS x t (s1.heap.objs.size + 1) s1.heap.objs.size, ⟨Nat.zero_le _, ⟨.none, he⟩, hit, Nat.succ_ne_self _⟩, fun b hb => ?_, q⟩
    have e' : b = s1.heap.objs.size + 1 ∨ b = s1.heap.objs.size := by simpa using hb
    have hle : s1.heap.objs.size ≤ b := by
      rcases e' with z | z
      · rw [z]
        exact Nat.le_add_right _ _
      · rw [z]
        exact Nat.le_refl _
    exact I1.fpOk hle (I1.hok.fresh hle)
/-- for i, c in enumerate(text) -/
theorem for_enumS {x : Str} {g : TG} {tb : TS} {D : Ends} {σ : L2.St} {H : Hp} (Pv : Nat → L2.St → Hp → Prop) (h0 : Pv 0 σ H)
    (hs : ∀ i c σ H T, x.cps[i]? = some c → Pv i σ H → H T = none → g (.ref T) σ (upd H T (.tup [.int (i : Nat), .str ⟨#[c]⟩])) fun σ2 H2 => tb { D with nx := Pv (i + 1), ct := Pv (i + 1), bk := D.nx } σ2 H2)
    (hd : ∀ σ H, Pv x.cps.size σ H → D.nx σ H) :
    ∃ W : Nat → Nat → L2.St → Hp → Prop, (∃ m, W 0 m σ H) ∧ ∀ i m σ H, W i m σ H →
      ((Ites x).stop i H ∧ D.nx σ H) ∨ ((Ites x).go i H ∧ ∃ N : L2.St → Hp → Prop, (∀ σ' H', N σ' H' → ∃ m', m' < m ∧ W (i + 1) m' σ' H') ∧ ∀ v H', (Ites x).yld i H v H' → g v σ H' fun σ2 H2 => tb { D with nx := N, ct := N, bk := D.nx } σ2 H2) := by
  refine ⟨fun i m σ H => m = x.cps.size - i ∧ i ≤ x.cps.size ∧ Pv i σ H, ⟨x.cps.size, by simp, Nat.zero_le _, h0⟩, ?_⟩
  rintro i m σ H ⟨rfl, hi, p⟩
  by_cases hlt : i < x.cps.size
  · refine .inr ⟨hlt, Pv (i + 1), fun σ' H' p' => ⟨x.cps.size - (i + 1), by omega, rfl, hlt, p'⟩, fun v H' y => ?_⟩
    obtain ⟨T, c, rfl, nT, hc, rfl⟩ := y
    exact hs i c σ H T hc p nT
  · have e : i = x.cps.size := by omega
    subst e
    exact .inl ⟨Nat.le_refl _, hd σ H p⟩
/-- for c in text -/
theorem for_str {x : Str} {g : TG} {tb : TS} {D : Ends} {σ : L2.St} {H : Hp} (Pv : Nat → L2.St → Hp → Prop) (h0 : Pv 0 σ H)
    (hs : ∀ i c σ H, x.cps[i]? = some c → Pv i σ H → g (.str ⟨#[c]⟩) σ H fun σ2 H2 => tb { D with nx := Pv (i + 1), ct := Pv (i + 1), bk := D.nx } σ2 H2)
    (hd : ∀ σ H, Pv x.cps.size σ H → D.nx σ H) :
    ∃ W : Nat → Nat → L2.St → Hp → Prop, (∃ m, W 0 m σ H) ∧ ∀ i m σ H, W i m σ H →
      ((Its x).stop i H ∧ D.nx σ H) ∨ ((Its x).go i H ∧ ∃ N : L2.St → Hp → Prop, (∀ σ' H', N σ' H' → ∃ m', m' < m ∧ W (i + 1) m' σ' H') ∧ ∀ v H', (Its x).yld i H v H' → g v σ H' fun σ2 H2 => tb { D with nx := N, ct := N, bk := D.nx } σ2 H2) := by
  refine ⟨fun i m σ H => m = x.cps.size - i ∧ i ≤ x.cps.size ∧ Pv i σ H, ⟨x.cps.size, by simp, Nat.zero_le _, h0⟩, ?_⟩
  rintro i m σ H ⟨rfl, hi, p⟩
  by_cases hlt : i < x.cps.size
  · refine .inr ⟨hlt, Pv (i + 1), fun σ' H' p' => ⟨x.cps.size - (i + 1), by omega, rfl, hlt, p'⟩, fun v H' y => ?_⟩
    obtain ⟨rfl, c, hc, rfl⟩ := y
    exact hs i c σ _ hc p
  · have e : i = x.cps.size := by omega
    subst e
    exact .inl ⟨Nat.le_refl _, hd σ H p⟩
end Pw

set_option Elab.async false
set_option linter.all false
set_option maxRecDepth 100000
namespace Pw
open PySem PySem.Builtin PySem.Builtin.Str PySem.StrLaws TL

/-! ### signs -/
def bad (c : Nat) : Bool := c != 48 && c != 49
/-- the first stranger's place -/
def strange (l : List Nat) : Option Nat := l.findIdx? bad
/-- a text of 0s and 1s alone -/
def Pure (l : List Nat) : Prop := ∀ c ∈ l, c = 48 ∨ c = 49
theorem pure_of {l : List Nat} (h : strange l = none) : Pure l := fun c hc => by
  have := List.findIdx?_eq_none_iff.mp h c hc
  simp [bad] at this
  by_cases e : c = 48
  · exact .inl e
  · exact .inr (this e)
theorem strange_none {l : List Nat} (h : Pure l) : strange l = none := by
  refine List.findIdx?_eq_none_iff.mpr fun c hc => ?_
  rcases h c hc with e | e <;> simp [bad, e]
theorem strange_take {l : List Nat} {i c : Nat} (h : l[i]? = some c) (hp : Pure (l.take i)) : bad c = true → strange l = some i := fun hb => by
  obtain ⟨hi, e⟩ := List.getElem?_eq_some_iff.mp h
  refine List.findIdx?_eq_some_iff_getElem.mpr ⟨hi, by rw [e]; exact hb, fun j hj => ?_⟩
  have hm : l[j] ∈ l.take i := List.mem_take_iff_getElem.mpr ⟨j, by omega, rfl⟩
  rcases hp _ hm with q | q <;> simp [bad, q]
theorem pure_more {l : List Nat} {i c : Nat} (h : l[i]? = some c) (hp : Pure (l.take i)) (hb : bad c = false) : Pure (l.take (i + 1)) := fun d hd => by
  rw [List.take_add_one, h] at hd
  rcases List.mem_append.mp hd with q | q
  · exact hp d q
  · obtain rfl : d = c := by simpa using q
    simp [bad] at hb
    by_cases e : d = 48
    · exact .inl e
    · exact .inr (hb e)
theorem strange_lt {l : List Nat} {i : Nat} (h : strange l = some i) : i < l.length := (List.findIdx?_eq_some_iff_getElem.mp h).1

/-! ### count of one sign -/
theorem at_sign {x y : Str} {s : Nat} (hy : tl y = [s]) (i : Nat) : At x y x.length i ↔ (tl x)[i]? = some s := by
  rw [at_iff (by rw [hy]; simp), hy]
  show ((List.drop i (tl x)).take 1 == [s]) = true ↔ _
  rw [beq_iff_eq]
  constructor
  · intro h
    have : ((tl x).drop i)[0]? = some s := by
      have e := congrArg (·[0]?) h
      simpa [List.getElem?_take] using e
    simpa using this
  · intro h
    obtain ⟨hi, e⟩ := List.getElem?_eq_some_iff.mp h
    rw [List.drop_eq_getElem_cons hi, e]
    rfl
theorem count_none {s : Nat} {l : List Nat} (h : ∀ i : Nat, l[i]? ≠ some s) : l.count s = 0 := by
  refine List.count_eq_zero.mpr fun hm => ?_
  obtain ⟨i, hi, e⟩ := List.mem_iff_getElem.mp hm
  exact h i (by rw [List.getElem?_eq_getElem hi, e])
theorem chain_count {x y : Str} {s : Nat} (hy : tl y = [s]) : ∀ (cuts : List Nat) (a f : Nat), ChainG x y x.length a cuts f → (∀ k, f ≤ k → ¬ At x y x.length k) → cuts.length = ((tl x).drop a).count s
  | [], a, f, h, hn => by
    have e : f = a := h
    subst e
    rw [count_none]
    · rfl
    · intro i hi
      rw [List.getElem?_drop] at hi
      exact hn (f + i) (by omega) ((at_sign hy _).mpr hi)
  | c :: r, a, f, h, hn => by
    obtain ⟨h1, h2, h3, h4⟩ := h
    have hl : y.length = 1 := by rw [len_tl, hy]; rfl
    rw [hl] at h4
    have ih := chain_count hy r (c + 1) f h4 hn
    have hc := (at_sign hy c).mp h2
    obtain ⟨hi, e⟩ := List.getElem?_eq_some_iff.mp hc
    have hsplit : (tl x).drop a = ((tl x).drop a).take (c - a) ++ (tl x).drop c := by
      have q := (List.take_append_drop (c - a) ((tl x).drop a)).symm
      rw [List.drop_drop] at q
      rw [show a + (c - a) = c by omega] at q
      exact q
    rw [hsplit, List.count_append, List.drop_eq_getElem_cons hi, e, List.count_cons_self, ← ih, count_none]
    · rw [List.length_cons, Nat.zero_add]
    · intro i hi2
      by_cases hlt : i < c - a
      · rw [List.getElem?_take_of_lt hlt, List.getElem?_drop] at hi2
        exact h3 (a + i) (by omega) (by omega) ((at_sign hy _).mpr hi2)
      · rw [List.getElem?_eq_none (by rw [List.length_take]; omega)] at hi2
        cases hi2
theorem count_sign {x y : Str} {s : Nat} (hy : tl y = [s]) : Txt.count x y = ((tl x).count s : Nat) := by
  have h1 : 1 ≤ y.length := by rw [len_tl, hy]; exact Nat.le_refl _
  obtain ⟨f, g, hn⟩ := occ_tight x y h1
  have := chain_count hy _ 0 f g hn
  rw [List.drop_zero] at this
  unfold Txt.count
  rw [this]
theorem count_pure : ∀ {l : List Nat}, Pure l → l.count 48 + l.count 49 = l.length
  | [], _ => rfl
  | c :: r, h => by
    have ih := count_pure (l := r) fun d hd => h d (List.mem_cons_of_mem _ hd)
    rcases h c List.mem_cons_self with e | e <;> subst e <;> simp [List.count_cons] <;> omega

/-! ### runs of 0s -/
def runL : Nat → List Nat → List Nat
  | k, [] => [k]
  | k, c :: r => if c = 49 then k :: runL 0 r else runL (k + 1) r
theorem spl_len : ∀ (l acc : List Nat), (spl [49] 0 acc l).map List.length = runL acc.length l
  | [], acc => by rw [spl_nil]; rfl
  | c :: r, acc => by
    by_cases h : c = 49
    · subst h
      rw [spl_hit (by show ((49 :: r).take 1 == [49]) = true; rfl), List.map_cons, show ([49] : List Nat).length - 1 = 0 from rfl, spl_len r []]
      show _ = if 49 = 49 then _ else _
      rw [if_pos rfl]
      rfl
    · have hm : pre [49] (c :: r) = false := pre_of_head [] r h
      rw [spl_miss hm, spl_len r (acc ++ [c])]
      show _ = if c = 49 then _ else _
      rw [if_neg h, List.length_append]
      rfl
theorem runL_ne (l : List Nat) : ∀ k, runL k l ≠ [] := by
  induction l with
  | nil => intro k; simp [runL]
  | cons c r ih =>
    intro k
    unfold runL
    split
    · simp
    · exact ih _
theorem runL_len (l : List Nat) : ∀ k, (runL k l).length ≤ l.length + 1 := by
  induction l with
  | nil => intro k; simp [runL]
  | cons c r ih =>
    intro k
    unfold runL
    split
    · rw [List.length_cons, List.length_cons]
      have := ih 0
      omega
    · have := ih (k + 1)
      rw [List.length_cons]
      omega
theorem runL_le (l : List Nat) : ∀ (k n : Nat), n ∈ runL k l → n ≤ k + l.length := by
  induction l with
  | nil =>
    intro k n h
    have : n = k := by simpa [runL] using h
    rw [this]
    exact Nat.le_add_right _ _
  | cons c r ih =>
    intro k n h
    unfold runL at h
    split at h
    · rcases List.mem_cons.mp h with z | z
      · rw [z]
        exact Nat.le_add_right _ _
      · have := ih 0 n z
        rw [List.length_cons]
        omega
    · have := ih (k + 1) n h
      rw [List.length_cons]
      omega
/-- the lengths of split's parts -/
theorem split_len {x y : Str} (hy : tl y = [49]) : (Txt.split x y).map (fun z => z.length) = runL 0 (tl x) := by
  have hk : ¬ Builtin.Str.strKind x < Builtin.Str.strKind y := kind_ok (by
    have e : y.cps = #[49] := Array.toList_inj.mp hy
    rw [e]
    simp)
  have h := split_spl x y (by rw [hy]; simp) hk
  have h2 := congrArg (List.map List.length) h
  rw [hy, spl_len] at h2
  have h3 : List.map List.length (List.map tl (Txt.split x y)) = runL 0 (tl x) := h2
  rw [← h3, List.map_map]
  refine List.map_congr_left fun z _ => ?_
  exact len_tl z
/-- the law's gaps: i the place, the last 1's place -/
def gapL : Nat → Option Nat → List Nat → List Int
  | _, _, [] => []
  | i, last, c :: r => if c = 49 then (match last with | some j => [(i : Int) - j - 1] | none => []) ++ gapL (i + 1) (some i) r else gapL (i + 1) last r
theorem gap_some : ∀ (l : List Nat) (i j k : Nat), i = j + 1 + k → gapL i (some j) l = (runL k l).dropLast.map (fun (n : Nat) => (n : Int))
  | [], i, j, k, h => rfl
  | c :: r, i, j, k, h => by
    unfold gapL runL
    by_cases e : c = 49
    · rw [if_pos e, if_pos e, gap_some r (i + 1) i 0 (by omega), List.dropLast_cons_of_ne_nil (runL_ne _ _), List.map_cons]
      show [(i : Int) - j - 1] ++ _ = _
      rw [show (i : Int) - j - 1 = (k : Int) by omega]
      rfl
    · rw [if_neg e, if_neg e]
      exact gap_some r (i + 1) j (k + 1) (by omega)
theorem gap_none : ∀ (l : List Nat) (i k : Nat), gapL i none l = ((runL k l).drop 1).dropLast.map (fun (n : Nat) => (n : Int))
  | [], i, k => rfl
  | c :: r, i, k => by
    unfold gapL runL
    by_cases e : c = 49
    · rw [if_pos e, if_pos e, gap_some r (i + 1) i 0 (by omega)]
      rfl
    · rw [if_neg e, if_neg e]
      exact gap_none r (i + 1) (k + 1)
/-- the law's idle: (most, here) led along -/
def idleL : Int → Int → List Nat → Int
  | m, _, [] => m
  | m, h, c :: r => idleL (max m (if c = 48 then h + 1 else 0)) (if c = 48 then h + 1 else 0) r
/-- the greatest of a list of at least one -/
def IsMax (m : Int) (l : List Int) : Prop := m ∈ l ∧ ∀ x ∈ l, x ≤ m
theorem IsMax.eq {m n : Int} {l : List Int} (a : IsMax m l) (b : IsMax n l) : m = n := Int.le_antisymm (b.2 _ a.1) (a.2 _ b.1)
theorem idle_max : ∀ (l : List Nat), Pure l → ∀ (k : Nat) (m : Int), (k : Int) ≤ m → ∃ t, IsMax t ((runL k l).map (fun (n : Nat) => (n : Int))) ∧ idleL m k l = max m t
  | [], _, k, m, h => ⟨k, ⟨by simp [runL], by simp [runL]⟩, by simp [idleL]; omega⟩
  | c :: r, hp, k, m, h => by
    have hr : Pure r := fun d hd => hp d (List.mem_cons_of_mem _ hd)
    unfold idleL runL
    rcases hp c List.mem_cons_self with e | e
    · rw [if_pos e, if_neg (by omega)]
      obtain ⟨t, ht, q⟩ := idle_max r hr (k + 1) (max m ((k : Int) + 1)) (by push_cast; omega)
      have hk : (k : Int) + 1 ≤ t := by
        obtain ⟨x, hx⟩ : ∃ x, x ∈ runL (k + 1) r ∧ k + 1 ≤ x := by
          have gen : ∀ (l : List Nat) (k : Nat), ∃ x, x ∈ runL k l ∧ k ≤ x := by
            intro l
            induction l with
            | nil => intro k; exact ⟨k, by simp [runL], Nat.le_refl _⟩
            | cons c r ih =>
              intro k
              unfold runL
              split
              · exact ⟨k, by simp, Nat.le_refl _⟩
              · obtain ⟨x, h1, h2⟩ := ih (k + 1)
                exact ⟨x, h1, by omega⟩
          exact gen r (k + 1)
        have := ht.2 (x : Int) (List.mem_map.mpr ⟨x, hx.1, rfl⟩)
        omega
      refine ⟨t, ht, ?_⟩
      have q' : idleL (max m ((k : Int) + 1)) ((k : Int) + 1) r = max (max m ((k : Int) + 1)) t := by
        have := q
        push_cast at this
        exact this
      rw [q']
      omega
    · rw [if_pos e, if_neg (by omega)]
      obtain ⟨t, ht, q⟩ := idle_max r hr 0 (max m 0) (by omega)
      refine ⟨max (k : Int) t, ⟨?_, fun x hx => ?_⟩, ?_⟩
      · rw [List.map_cons]
        by_cases hkt : (k : Int) ≤ t
        · rw [Int.max_eq_right hkt]
          exact List.mem_cons_of_mem _ ht.1
        · rw [Int.max_eq_left (by omega)]
          exact List.mem_cons_self
      · rw [List.map_cons] at hx
        rcases List.mem_cons.mp hx with z | z
        · omega
        · have := ht.2 x z
          omega
      · have q' : idleL (max m 0) 0 r = max (max m 0) t := by
          have := q
          push_cast at this
          exact this
        rw [q']
        omega
theorem idle_is {l : List Nat} (hp : Pure l) {t : Int} (ht : IsMax t ((runL 0 l).map (fun (n : Nat) => (n : Int)))) : idleL 0 0 l = t := by
  obtain ⟨u, hu, q⟩ := idle_max l hp 0 0 (Int.le_refl _)
  have e := hu.eq ht
  subst e
  have h0 : 0 ≤ u := by
    obtain ⟨n, _, e⟩ := List.mem_map.mp hu.1
    omega
  have q' : idleL 0 0 l = max 0 u := q
  rw [q']
  omega

/-! ### sums along a row -/
/-- the sums ahead of each place and at the end, from h on -/
def sumL : Int → List Nat → List Int
  | h, [] => [h]
  | h, c :: r => h :: sumL (if c = 49 then h + 1 else h - 1) r
def step (h : Int) (c : Nat) : Int := if c = 49 then h + 1 else h - 1
def endS (l : List Nat) : Int := l.foldl step 0
/-- the highest, the lowest of them, led along -/
def hiS (l : List Nat) : Int × Int × Int := l.foldl (fun st c => let h := step st.1 c; (h, (if h > st.2.1 then h else st.2.1), (if h < st.2.2 then h else st.2.2))) (0, 0, 0)
theorem hiS_snoc (l : List Nat) (c : Nat) : hiS (l ++ [c]) = (step (hiS l).1 c, (if step (hiS l).1 c > (hiS l).2.1 then step (hiS l).1 c else (hiS l).2.1), (if step (hiS l).1 c < (hiS l).2.2 then step (hiS l).1 c else (hiS l).2.2)) := by
  unfold hiS
  rw [List.foldl_append]
  rfl
theorem take_snoc {l : List Nat} {i c : Nat} (h : l[i]? = some c) : l.take (i + 1) = l.take i ++ [c] := by
  rw [List.take_add_one, h]
  rfl
/-- all sums of the beginnings -/
def sums (l : List Nat) : List Int := (List.range (l.length + 1)).map fun i => (hiS (l.take i)).1
theorem sums_len (l : List Nat) : (sums l).length = l.length + 1 := by simp [sums]
theorem hiS_top (l : List Nat) : IsMax (hiS l).2.1 (sums l) ∧ ((hiS l).2.2 ∈ sums l ∧ ∀ x ∈ sums l, (hiS l).2.2 ≤ x) := by
  have gen : ∀ n, n ≤ l.length → IsMax (hiS (l.take n)).2.1 ((List.range (n + 1)).map fun i => (hiS (l.take i)).1) ∧
      ((hiS (l.take n)).2.2 ∈ ((List.range (n + 1)).map fun i => (hiS (l.take i)).1) ∧ ∀ x ∈ ((List.range (n + 1)).map fun i => (hiS (l.take i)).1), (hiS (l.take n)).2.2 ≤ x) := by
    intro n
    induction n with
    | zero =>
      intro _
      simp [IsMax, hiS]
    | succ n ih =>
      intro hn
      obtain ⟨⟨a1, a2⟩, b1, b2⟩ := ih (by omega)
      have hg : l[n]? = some l[n] := List.getElem?_eq_getElem (by omega)
      have e : (List.range (n + 1 + 1)).map (fun i => (hiS (l.take i)).1) = ((List.range (n + 1)).map fun i => (hiS (l.take i)).1) ++ [(hiS (l.take (n + 1))).1] := by
        rw [List.range_succ, List.map_append]
        rfl
      have e2 := hiS_snoc (l.take n) l[n]
      rw [← take_snoc hg] at e2
      have f1 : (hiS (l.take (n + 1))).1 = step (hiS (l.take n)).1 l[n] := by rw [e2]
      have f2 : (hiS (l.take (n + 1))).2.1 = if step (hiS (l.take n)).1 l[n] > (hiS (l.take n)).2.1 then step (hiS (l.take n)).1 l[n] else (hiS (l.take n)).2.1 := by rw [e2]
      have f3 : (hiS (l.take (n + 1))).2.2 = if step (hiS (l.take n)).1 l[n] < (hiS (l.take n)).2.2 then step (hiS (l.take n)).1 l[n] else (hiS (l.take n)).2.2 := by rw [e2]
      rw [e, f2, f3]
      have f1' := f1
      generalize hh : step (hiS (l.take n)).1 l[n] = h at *
      rw [f1']
      refine ⟨⟨?_, fun x hx => ?_⟩, ?_, fun x hx => ?_⟩
      · split
        · exact List.mem_append_right _ (by simp)
        · exact List.mem_append_left _ a1
      · rcases List.mem_append.mp hx with z | z
        · have := a2 x z
          split <;> omega
        · obtain rfl : x = h := by simpa using z
          split <;> omega
      · split
        · exact List.mem_append_right _ (by simp)
        · exact List.mem_append_left _ b1
      · rcases List.mem_append.mp hx with z | z
        · have := b2 x z
          split <;> omega
        · obtain rfl : x = h := by simpa using z
          split <;> omega
  have := gen l.length (Nat.le_refl _)
  rw [List.take_length] at this
  exact this
/-- what is at least as far as all two sums are apart, and is so far itself, is the swing -/
theorem swing_is {l : List Nat} {m : Int} (h1 : ∀ a ∈ sums l, ∀ b ∈ sums l, b - a ≤ m) (h2 : ∃ a ∈ sums l, ∃ b ∈ sums l, m = b - a ∨ m = a - b) : m = (hiS l).2.1 - (hiS l).2.2 := by
  obtain ⟨⟨a1, a2⟩, b1, b2⟩ := hiS_top l
  have g1 := h1 _ b1 _ a1
  obtain ⟨a, ha, b, hb, e⟩ := h2
  have c1 := a2 a ha
  have c2 := a2 b hb
  have c3 := b2 a ha
  have c4 := b2 b hb
  rcases e with e | e <;> omega
end Pw

set_option Elab.async false
set_option linter.all false
set_option maxRecDepth 100000
set_option maxHeartbeats 4000000
namespace K01
open PySem PySem.Spec PyProof.Rows L2 Pw TL
def topS (i : Nat) : Stmt := PySem.Challenge.pw_pulsewright_k01_rows_by_themselves.main.body.getD i (.Pass ⟨0, 0, 0, 0⟩)
section
variable {P : Program} {w : World} {K : PySem.W.Frag} {mg : Str → Option Value} {base : Heap}
theorem same_new {H : Hp} {p : Addr} {o : HO} (h : H p = none) : Same H (upd H p o) := fun b x e => by
  rw [upd_ne (ne_of_none e h)]
  exact e
/-! first_stranger -/
abbrev sFS : Stmt := topS 18
theorem scFS : FnScope ["text", "at", "sign"] ["text"] (defScope sFS) := ⟨rfl, rfl, rfl, by decide +kernel, rfl, by decide +kernel, by decide +kernel⟩
def vOpt : Option Nat → V
  | none => .non
  | some i => .int (i : Nat)
def spFS : Sp := fun vs H Q _ => ∃ x : Str, vs = [.str x] ∧ ∀ H', Same H H' → Q (vOpt (strange (tl x))) H'
theorem one_sign (c : Nat) : (V.str ⟨#[c]⟩ = V.str "0" ↔ c = 48) ∧ (V.str ⟨#[c]⟩ = V.str "1" ↔ c = 49) := by
  constructor
  · constructor
    · intro h
      have h1 : (⟨#[c]⟩ : Str) = "0" := V.str.inj h
      have h2 : [c] = [48] := congrArg tl h1
      exact (List.cons.inj h2).1
    · intro h
      subst h
      rfl
  · constructor
    · intro h
      have h1 : (⟨#[c]⟩ : Str) = "1" := V.str.inj h
      have h2 : [c] = [49] := congrArg tl h1
      exact (List.cons.inj h2).1
    · intro h
      subst h
      rfl
theorem ok_fs {f : Addr} {fd : FuncData} {k : Nat} (F : Fun K "first_stranger" "first_stranger" sFS f fd) (me : mg "enumerate" = none) : FnOk P w K mg base CX0 (k + 1) f fd ["text"] spFS := by
  refine F.ok scFS (fun vs H Q E h => ?_) (fun cdv A outer s H vs Q E hr h => ?_)
  · obtain ⟨x, rfl, _⟩ := h
    rfl
  · obtain ⟨x, rfl, q⟩ := h
    refine ⟨_, pss_cons (ps_for PassesOwn.never rfl (pi_enumS (by rfl) me (pa_cons (pv 0) pa_nil)) (pg_tup rfl (pgs_cons (pg_name (i := 1) scFS.nd rfl (.inl rfl)) (pgs_cons (pg_name (i := 2) scFS.nd rfl (.inl rfl)) pgs_nil)))
        (pss_one (ps_if (PW.pt (pw_and (pt_cmpR op_ne (pv 2) pe_str (nomark _)) (pw_and1 (pt_cmpR op_ne (pv 2) pe_str (nomark _))))) (pss_one (ps_ret (pv 1))) pss_nil)))
      (pss_one (ps_ret pe_non)), ?_⟩
    refine ⟨.str x, rfl, x, rfl, for_enumS (x := x) (fun i σ H1 => (∃ y1 y2, σ = [some (.str x), y1, y2]) ∧ Pure ((tl x).take i) ∧ Same H H1) ⟨⟨none, none, rfl⟩, fun c hc => by simp at hc, Same.refl H⟩ ?_ ?_⟩
    · rintro i c σ H1 T hc ⟨⟨y1, y2, rfl⟩, hp, sm⟩ nT
      have hc' : (tl x)[i]? = some c := by rw [← hc]; exact Array.getElem?_toList
      have sT : Same H (upd H1 T (.tup [.int (i : Nat), .str ⟨#[c]⟩])) := sm.trans (same_new nT)
      refine ⟨T, _, rfl, .inl (.inl upd_same), rfl, _, _, rfl, _, _, rfl, rfl, ?_⟩
      refine ⟨_, rfl, rfl, _, rfl, ?_⟩
      by_cases h0 : c = 48
      · rw [decide_eq_true ((one_sign c).1.mpr h0)]
        refine iteF (iteF ⟨⟨_, _, rfl⟩, pure_more hc' hp (by simp [bad, h0]), sT⟩)
      · rw [decide_eq_false (fun z => h0 ((one_sign c).1.mp z))]
        refine iteT ⟨_, rfl, rfl, _, rfl, ?_⟩
        by_cases h1 : c = 49
        · rw [decide_eq_true ((one_sign c).2.mpr h1)]
          exact iteF ⟨⟨_, _, rfl⟩, pure_more hc' hp (by simp [bad, h1]), sT⟩
        · rw [decide_eq_false (fun z => h1 ((one_sign c).2.mp z))]
          refine iteT ⟨_, rfl, ?_⟩
          have e := strange_take hc' hp (by simp [bad, h0, h1])
          have := q _ sT
          rw [e] at this
          exact this
    · rintro σ H1 ⟨⟨y1, y2, rfl⟩, hp, sm⟩
      have hl : (tl x).take x.cps.size = tl x := List.take_of_length_le (by simp)
      rw [hl] at hp
      have := q H1 sm
      rw [strange_none hp] at this
      exact this
end
section
variable {P : Program} {w : World} {K : PySem.W.Frag} {mg : Str → Option Value} {base : Heap}
/-! check_row -/
abbrev sCR : Stmt := topS 19
theorem scCR : FnScope ["row", "at"] ["row"] (defScope sCR) := ⟨rfl, rfl, rfl, by decide +kernel, rfl, by decide +kernel, by decide +kernel⟩
def okInt : V → Prop := fun v => ∃ i : Nat, v = .int (i : Nat) ∧ i ≤ 100000
/-- a row, or BadRow with its place -/
def rowOut (C : Addr) (x : Str) (H : Hp) (E : XK) : Prop := ∀ i : Nat, strange (tl x) = some i → ∀ d H', Same H H' → H d = none → H' d = some (.xd [("at", .int (i : Nat))]) → E (.ref C) (some d) H'
theorem rowOut.same {C : Addr} {x : Str} {H H1 : Hp} {E : XK} (h : rowOut C x H E) (s : Same H H1) : rowOut C x H1 E := fun i e d H' s' n q => h i e d H' (s.trans s') (s.free n) q
def spCR (C : Addr) : Sp := fun vs H Q E => ∃ x : Str, vs = [.str x] ∧ (tl x).length ≤ 1000 ∧ (strange (tl x) = none → ∀ H', Same H H' → Q .non H') ∧ rowOut C x H E
theorem ok_cr {f fFS C : Addr} {fd fdFS : FuncData} (F : Fun K "check_row" "check_row" sCR f fd) (G : FnOk P w K mg base CX0 1 fFS fdFS ["text"] spFS) (gm : mg "first_stranger" = some (.ref fFS)) (gk : PySem.W.keepIn K (.ref fFS) = true) (gb : Binds K fdFS ["text"] [])
    (T : ErrOk P w K mg base "BadRow" "at" C okInt) : FnOk P w K mg base (L2.CX P w) 3 f fd ["row"] (spCR C) := by
  refine F.okX scCR (fun vs H Q E h => ?_) (fun cdv A outer s H vs Q E hr h => ?_)
  · obtain ⟨x, rfl, _⟩ := h
    rfl
  · obtain ⟨x, rfl, hl, q1, q2⟩ := h
    refine ⟨_, pss_cons (ps_set (i := 1) scCR.nd rfl (.inl rfl) (pe_call G (hr.mono (by decide)) rfl gm gk gb .nil pass0 (pa_cons (pv 0) pa_nil)))
      (pss_one (ps_if (pt_cmpR op_notN (pv 1) pe_non (nomark _)) (pss_one (ps_raise rfl (takes_of rfl rfl rfl rfl) (pmk_err T hr rfl (pv 1)))) pss_nil)), ?_⟩
    refine ⟨_, rfl, x, rfl, fun H1 s1 => ?_⟩
    cases e : strange (tl x) with
    | none =>
      refine ⟨.non, rfl, rfl, _, rfl, iteF (q1 e H1 s1)⟩
    | some i =>
      refine ⟨.int (i : Nat), rfl, rfl, _, rfl, iteT ⟨.int (i : Nat), rfl, err_read ⟨i, rfl, ?_⟩ fun d H2 s2 nd e2 => ?_⟩⟩
      · have := strange_lt e
        omega
      · exact q2 i e d H2 (s1.trans s2) (s1.free nd) e2
end
section
variable {P : Program} {w : World} {K : PySem.W.Frag} {mg : Str → Option Value} {base : Heap}
/-! swings_along -/
abbrev sSA : Stmt := topS 20
theorem scSA : FnScope ["row", "here", "top", "bottom", "swings", "sign"] ["row"] (defScope sSA) := ⟨rfl, rfl, rfl, by decide +kernel, rfl, by decide +kernel, by decide +kernel⟩
def swl (l : List Nat) (n : Nat) : List Int := (List.range n).map fun i => (hiS (l.take i)).2.1 - (hiS (l.take i)).2.2
def spSA : Sp := fun vs H Q _ => ∃ x : Str, vs = [.str x] ∧ (tl x).length ≤ 1000 ∧ ∀ H' p, Same H H' → H p = none → H' p = some (.lst ((swl (tl x) ((tl x).length + 1)).map V.int)) → Q (.ref p) H'
theorem swl_snoc (l : List Nat) (n : Nat) : swl l (n + 1) = swl l n ++ [(hiS (l.take n)).2.1 - (hiS (l.take n)).2.2] := by
  unfold swl
  rw [List.range_succ, List.map_append]
  rfl
theorem same_put {H H1 : Hp} {p : Addr} {o : HO} (s : Same H H1) (n : H p = none) : Same H (upd H1 p o) := fun b x e => by
  rw [upd_ne (ne_of_none e n)]
  exact s b x e
theorem ok_sa {f : Addr} {fd : FuncData} {k : Nat} (F : Fun K "swings_along" "swings_along" sSA f fd) (mmax : mg "max" = none) (mmin : mg "min" = none) : FnOk P w K mg base CX0 (k + 1) f fd ["row"] spSA := by
  refine F.ok scSA (fun vs H Q E h => ?_) (fun cdv A outer s H vs Q E hr h => ?_)
  · obtain ⟨x, rfl, _⟩ := h
    rfl
  · obtain ⟨x, rfl, hlen, q⟩ := h
    refine ⟨_, pss_cons (ps_asg3 pe_int (pg_name (i := 1) scSA.nd rfl (.inl rfl)) (pg_name (i := 2) scSA.nd rfl (.inl rfl)) (pg_name (i := 3) scSA.nd rfl (.inl rfl)))
      (pss_cons (ps_set (i := 4) scSA.nd rfl (.inl rfl) (pe_lst (pa_cons pe_int pa_nil)))
      (pss_cons (ps_for PassesOwn.never rfl (pi_str (pv 0)) (pg_name (i := 5) scSA.nd rfl (.inl rfl))
        (pss_cons (ps_aug (i := 1) scSA.nd rfl (.inl rfl) (pe_ifExp (pt_cmpR op_eq (pv 5) pe_str (nomark _)) pe_int (pe_un un_neg pe_int)) ip_add)
        (pss_cons (ps_set (i := 2) scSA.nd rfl (.inl rfl) (pe_callB (call_max2 rfl) (by rfl) mmax (by decide +kernel) (pa_cons (pv 2) (pa_cons (pv 1) pa_nil))))
        (pss_cons (ps_set (i := 3) scSA.nd rfl (.inl rfl) (pe_callB (call_min2 rfl) (by rfl) mmin (by decide +kernel) (pa_cons (pv 3) (pa_cons (pv 1) pa_nil))))
        (pss_one (ps_expr (pe_bm PySem.F.plainAttrs_list PySem.F.slot_list_append PySem.F.type_list_append mt_append (pv 4) (pa_cons (pe_op op_sub (pv 2) (pv 3)) pa_nil))))))))
      (pss_one (ps_ret (pv 4))))), ?_⟩
    refine ⟨by show 1 ≤ sizeLine; decide, fun p np => ?_⟩
    refine ⟨.str x, rfl, x, rfl, for_str (x := x) (fun i σ H1 => (∃ y, σ = [some (.str x), some (.int (hiS ((tl x).take i)).1), some (.int (hiS ((tl x).take i)).2.1), some (.int (hiS ((tl x).take i)).2.2), some (.ref p), y]) ∧ i ≤ (tl x).length ∧ Same H H1 ∧ H1 p = some (.lst ((swl (tl x) (i + 1)).map V.int)))
      ⟨⟨none, rfl⟩, Nat.zero_le _, same_new np, upd_same⟩ ?_ ?_⟩
    · rintro i c σ H1 hc ⟨⟨y, rfl⟩, hi, sm, hp⟩
      have hc' : (tl x)[i]? = some c := by rw [← hc]; exact Array.getElem?_toList
      have hil : i < (tl x).length := (List.getElem?_eq_some_iff.mp hc').1
      have e := hiS_snoc ((tl x).take i) c
      rw [← take_snoc hc'] at e
      refine ⟨_, rfl, _, rfl, rfl, _, rfl, ?_⟩
      have hz : ((swl (tl x) (i + 1)).map V.int).length < sizeLine := by
        rw [List.length_map]
        unfold swl
        rw [List.length_map, List.length_range]
        exact small1000 (by omega)
      by_cases h1 : c = 49
      · rw [decide_eq_true ((one_sign c).2.mpr h1)]
        refine iteT ⟨_, _, rfl, rfl, ?_⟩
        refine ⟨_, rfl, _, rfl, _, _, rfl, _, rfl, _, rfl, _, _, rfl, .ref p, rfl, .inl ⟨rfl, _, SqL.of hp⟩, _, rfl, _, rfl, _, _, rfl, rfl, p, _, _, rfl, rfl, hp, hz, ?_⟩
        unfold Pw.step at e
        simp only [if_pos h1] at e
        refine ⟨⟨some (V.str ⟨#[c]⟩), ?_⟩, hil, same_put sm np, ?_⟩
        · rw [e]
          rfl
        · rw [upd_same, swl_snoc (tl x) (i + 1), e, List.map_append]
          rfl
      · rw [decide_eq_false (fun z => h1 ((one_sign c).2.mp z))]
        refine iteF ⟨1, rfl, _, _, rfl, rfl, ?_⟩
        refine ⟨_, rfl, _, rfl, _, _, rfl, _, rfl, _, rfl, _, _, rfl, .ref p, rfl, .inl ⟨rfl, _, SqL.of hp⟩, _, rfl, _, rfl, _, _, rfl, rfl, p, _, _, rfl, rfl, hp, hz, ?_⟩
        unfold Pw.step at e
        simp only [if_neg h1] at e
        refine ⟨⟨some (V.str ⟨#[c]⟩), ?_⟩, hil, same_put sm np, ?_⟩
        · rw [e]
          rfl
        · rw [upd_same, swl_snoc (tl x) (i + 1), e, List.map_append]
          rfl
    · rintro σ H1 ⟨⟨y, rfl⟩, hi, sm, hp⟩
      have e : x.cps.size = (tl x).length := by simp
      rw [e] at hp
      exact ⟨_, rfl, q H1 p sm np hp⟩
end
section
variable {P : Program} {w : World} {K : PySem.W.Frag} {mg : Str → Option Value} {base : Heap}
/-- check_row as its callers have it -/
structure CROk (P : Program) (w : World) (K : PySem.W.Frag) (mg : Str → Option Value) (base : Heap) (C : Addr) : Prop where
  ex : ∃ (f : Addr) (fd : FuncData), FnOk P w K mg base (L2.CX P w) 3 f fd ["row"] (spCR C) ∧ mg "check_row" = some (.ref f) ∧ PySem.W.keepIn K (.ref f) = true ∧ Binds K fd ["row"] []
/-! total -/
abbrev sTO : Stmt := topS 21
theorem scTO : FnScope ["row"] ["row"] (defScope sTO) := ⟨rfl, rfl, rfl, by decide +kernel, rfl, by decide +kernel, by decide +kernel⟩
def spTO (C : Addr) : Sp := fun vs H Q E => ∃ x : Str, vs = [.str x] ∧ (tl x).length ≤ 1000 ∧ (strange (tl x) = none → ∀ H', Same H H' → Q (.int (((tl x).count 49 : Nat) - ((tl x).count 48 : Nat))) H') ∧ rowOut C x H E
theorem ok_to {f C : Addr} {fd : FuncData} (F : Fun K "total" "total" sTO f fd) (R : CROk P w K mg base C) : FnOk P w K mg base (L2.CX P w) 4 f fd ["row"] (spTO C) := by
  obtain ⟨fR, fdR, G, gm, gk, gb⟩ := R.ex
  refine F.okX scTO (fun vs H Q E h => ?_) (fun cdv A outer s H vs Q E hr h => ?_)
  · obtain ⟨x, rfl, _⟩ := h
    rfl
  · obtain ⟨x, rfl, hl, q1, q2⟩ := h
    refine ⟨_, pss_cons (ps_expr (pe_call (E := E) G hr rfl gm gk gb .nil (passes_call (takes_of rfl rfl rfl rfl) (fun _ _ _ _ z => z)) (pa_cons (pv 0) pa_nil)))
      (pss_one (ps_ret (pe_op op_sub (pe_m1 PySem.F.slot_str_count PySem.F.type_str_count mt_count (pv 0) pe_str) (pe_m1 PySem.F.slot_str_count PySem.F.type_str_count mt_count (pv 0) pe_str)))), ?_⟩
    refine ⟨_, rfl, x, rfl, hl, fun e H1 s1 => ?_, q2⟩
    refine ⟨_, rfl, ⟨_, rfl⟩, x, _, rfl, rfl, _, rfl, ⟨_, rfl⟩, x, _, rfl, rfl, _, _, rfl, rfl, ?_⟩
    have := q1 e H1 s1
    rw [count_sign (x := x) (y := "1") (s := 49) rfl, count_sign (x := x) (y := "0") (s := 48) rfl]
    exact this
/-! swing -/
abbrev sSW : Stmt := topS 22
theorem scSW : FnScope ["row"] ["row"] (defScope sSW) := ⟨rfl, rfl, rfl, by decide +kernel, rfl, by decide +kernel, by decide +kernel⟩
def spSW (C : Addr) : Sp := fun vs H Q E => ∃ x : Str, vs = [.str x] ∧ (tl x).length ≤ 1000 ∧ (strange (tl x) = none → ∀ H', Same H H' → Q (.int ((hiS (tl x)).2.1 - (hiS (tl x)).2.2)) H') ∧ rowOut C x H E
theorem ok_sw {f fS C : Addr} {fd fdS : FuncData} (F : Fun K "swing" "swing" sSW f fd) (R : CROk P w K mg base C) (GS : FnOk P w K mg base CX0 1 fS fdS ["row"] spSA) (sm : mg "swings_along" = some (.ref fS)) (sk : PySem.W.keepIn K (.ref fS) = true) (sb : Binds K fdS ["row"] []) :
    FnOk P w K mg base (L2.CX P w) 4 f fd ["row"] (spSW C) := by
  obtain ⟨fR, fdR, G, gm, gk, gb⟩ := R.ex
  refine F.okX scSW (fun vs H Q E h => ?_) (fun cdv A outer s H vs Q E hr h => ?_)
  · obtain ⟨x, rfl, _⟩ := h
    rfl
  · obtain ⟨x, rfl, hl, q1, q2⟩ := h
    refine ⟨_, pss_cons (ps_expr (pe_call (E := E) G hr rfl gm gk gb .nil (passes_call (takes_of rfl rfl rfl rfl) (fun _ _ _ _ z => z)) (pa_cons (pv 0) pa_nil)))
      (pss_one (ps_ret (pe_ix ix_list (pe_call GS (hr.mono (by decide)) rfl sm sk sb .nil pass0 (pa_cons (pv 0) pa_nil)) (pe_un un_neg pe_int) (fun _ _ => rfl)))), ?_⟩
    refine ⟨_, rfl, x, rfl, hl, fun e H1 s1 => ?_, q2⟩
    refine ⟨_, rfl, x, rfl, hl, fun H2 p s2 np e2 => ?_⟩
    refine ⟨1, rfl, p, _, _, .int ((hiS (tl x)).2.1 - (hiS (tl x)).2.2), rfl, rfl, SqL.of e2, ?_, ?_⟩
    · rw [swl_snoc, List.map_append, List.take_length]
      exact atI_last _ _
    · exact q1 e H2 (s1.trans s2)
/-! gaps -/
abbrev sGA : Stmt := topS 23
theorem scGA : FnScope ["row", "run"] ["row"] (defScope sGA) := ⟨rfl, rfl, rfl, by decide +kernel, rfl, by decide +kernel, by decide +kernel⟩
def gapsV (x : Str) : List Int := ((runL 0 (tl x)).drop 1).dropLast.map (fun (n : Nat) => (n : Int))
def spGA (C : Addr) : Sp := fun vs H Q E => ∃ x : Str, vs = [.str x] ∧ (tl x).length ≤ 1000 ∧ (strange (tl x) = none → ∀ H' p, Same H H' → H p = none → H' p = some (.lst ((gapsV x).map V.int)) → Q (.ref p) H') ∧ rowOut C x H E
theorem cut_in (xs : List V) : cutV xs (some 1) (some (-1)) = (xs.drop 1).dropLast := by
  unfold cutV
  have e1 : HT.sIx xs.length 0 (some 1) = min 1 xs.length := HT.sIx_nat xs.length 0 1
  have e2 : HT.sIx xs.length xs.length (some (-1)) = xs.length - 1 := by
    show (if (-1 : Int) < 0 then ((-1 : Int) + (xs.length : Int)).toNat else min (-1 : Int).toNat xs.length) = _
    rw [if_pos (by decide)]
    omega
  rw [e1, e2]
  cases xs with
  | nil => rfl
  | cons a r =>
    rw [show min 1 (a :: r).length = 1 by rw [List.length_cons]; omega, List.dropLast_eq_take]
    show List.take ((a :: r).length - 1 - 1) r = List.take (r.length - 1) r
    rw [List.length_cons]
    rfl
theorem split_small (x y : Str) (h : (tl x).length ≤ 1000) (hy : tl y = [49]) : (Txt.split x y).length ≤ 1001 := by
  have e := split_len (x := x) (y := y) hy
  have e2 := congrArg List.length e
  rw [List.length_map] at e2
  have := runL_len (tl x) 0
  omega
theorem ok_ga {f C : Addr} {fd : FuncData} (F : Fun K "gaps" "gaps" sGA f fd) (R : CROk P w K mg base C) (ml : mg "len" = none) : FnOk P w K mg base (L2.CX P w) 4 f fd ["row"] (spGA C) := by
  obtain ⟨fR, fdR, G, gm, gk, gb⟩ := R.ex
  refine F.okX scGA (fun vs H Q E h => ?_) (fun cdv A outer s H vs Q E hr h => ?_)
  · obtain ⟨x, rfl, _⟩ := h
    rfl
  · obtain ⟨x, rfl, hl, q1, q2⟩ := h
    refine ⟨_, pss_cons (ps_expr (pe_call (E := E) G hr rfl gm gk gb .nil (passes_call (takes_of rfl rfl rfl rfl) (fun _ _ _ _ z => z)) (pa_cons (pv 0) pa_nil)))
      (pss_one (ps_ret (pe_lc (own := [("run", 1)]) (g := gName 1) (tt := tYes) rfl scGA.nd (pi_list (pe_slice sl_list (pe_split (pv 0) pe_str) (po_some pe_int) (po_some (pe_un un_neg pe_int))))
        (blkOk_by (N := ["row", "run"]) (sc := defScope sGA) (by decide +kernel)) (fun _ _ _ _ _ => pg_name (i := 1) scGA.nd rfl (Or.inl rfl)) (fun _ _ _ _ _ => pts_nil)
        (fun _ _ _ _ _ => pe_callB call_len_str (by rfl) ml PySem.boot_len (pa_cons (pv 1) pa_nil))))), ?_⟩
    refine ⟨_, rfl, x, rfl, hl, fun e H1 s1 => ?_, q2⟩
    refine ⟨_, rfl, ⟨_, rfl⟩, x, _, rfl, rfl, rfl, ?_, fun p1 n1 => ?_⟩
    · rw [len_tl]
      exact Nat.le_trans (Nat.add_le_add_right hl 2) (by decide)
    refine ⟨1, rfl, 1, rfl, -1, rfl, p1, _, rfl, SqL.of upd_same, fun p2 n2 => ?_⟩
    refine ⟨p2, rfl, ⟨_, SqL.of upd_same⟩, fun D nD => ?_⟩
    have e12 : p1 ≠ p2 := ne_of_none upd_same n2
    have eD1 : p1 ≠ D := ne_of_none (by rw [upd_ne e12]; exact upd_same) nD
    have eD2 : p2 ≠ D := ne_of_none upd_same nD
    have sD : Same H (upd (upd H1 p1 (.lst ((Txt.split x "1").map V.str))) p2 (.lst (cutV ((Txt.split x "1").map V.str) (some 1) (some (-1))))) := s1.trans ((same_new n1).trans (same_new n2))
    have nDH : H D = none := sD.free nD
    have el : ((Txt.split x "1").map (fun z => z.length)) = runL 0 (tl x) := split_len rfl
    have ec : cutV ((Txt.split x "1").map V.str) (some 1) (some (-1)) = (((Txt.split x "1").drop 1).dropLast).map V.str := by rw [cut_in, ← List.map_drop, ← List.map_dropLast]
    have ez : (((Txt.split x "1").drop 1).dropLast).map (fun z : Str => (z.length : Int)) = gapsV x := by
      unfold gapsV
      rw [← el, ← List.map_drop, ← List.map_dropLast, List.map_map]
      rfl
    refine lc_list (K := K) (a := p2) (xs := cutV ((Txt.split x "1").map V.str) (some 1) (some (-1))) (fun i H2 => Same H H2 ∧ H2 p2 = some (.lst (cutV ((Txt.split x "1").map V.str) (some 1) (some (-1)))) ∧ H2 D = some (.lst (((gapsV x).take i).map V.int)))
      ⟨same_put sD nDH, by rw [upd_ne eD2, upd_same], upd_same⟩ (fun i H2 _ h => SqL.of h.2.1) (fun i v H2 hv h => ?_) (fun H2 h => ?_)
    · obtain ⟨s2, h2, h3⟩ := h
      rw [ec, List.getElem?_map] at hv
      cases hz : (((Txt.split x "1").drop 1).dropLast)[i]? with
      | none =>
        rw [hz] at hv
        cases hv
      | some z =>
        rw [hz] at hv
        obtain rfl : V.str z = v := Option.some.inj hv
        have hg : (gapsV x)[i]? = some (z.length : Int) := by
          rw [← ez, List.getElem?_map, hz]
          rfl
        have hzm : z ∈ Txt.split x "1" := List.mem_of_mem_drop ((List.dropLast_sublist _).subset (List.mem_of_getElem? hz))
        have hzl : z.length ≤ sizeLine := by
          have : z.length ∈ runL 0 (tl x) := by
            rw [← el]
            exact List.mem_map.mpr ⟨z, hzm, rfl⟩
          exact Nat.le_trans (runL_le _ _ _ this) (Nat.le_trans (by omega : 0 + (tl x).length ≤ 1000) (by decide))
        refine ⟨rfl, _, rfl, z, rfl, hzl, _, h3, ?_, same_put s2 nDH, ?_, ?_⟩
        · rw [List.length_map, List.length_take]
          have : (gapsV x).length ≤ 1001 := by
            unfold gapsV
            rw [List.length_map, List.length_dropLast, List.length_drop]
            have := runL_len (tl x) 0
            omega
          exact Nat.lt_of_le_of_lt (Nat.le_trans (Nat.min_le_right _ _) this) (by decide)
        · rw [upd_ne eD2]
          exact h2
        · rw [upd_same, List.take_add_one, hg, List.map_append]
          rfl
    · obtain ⟨s2, h2, h3⟩ := h
      have hn : (cutV ((Txt.split x "1").map V.str) (some 1) (some (-1))).length = (gapsV x).length := by
        rw [ec, ← ez, List.length_map, List.length_map]
      rw [hn, List.take_length] at h3
      exact q1 e H2 D s2 nDH h3
end
section
variable {P : Program} {w : World} {K : PySem.W.Frag} {mg : Str → Option Value} {base : Heap}
/-! idle -/
abbrev sID : Stmt := topS 24
theorem scID : FnScope ["row", "run"] ["row"] (defScope sID) := ⟨rfl, rfl, rfl, by decide +kernel, rfl, by decide +kernel, by decide +kernel⟩
def spID (C : Addr) : Sp := fun vs H Q E => ∃ x : Str, vs = [.str x] ∧ (tl x).length ≤ 1000 ∧ (strange (tl x) = none → ∀ H', Same H H' → Q (.int (idleL 0 0 (tl x))) H') ∧ rowOut C x H E
theorem ok_id {f C : Addr} {fd : FuncData} (F : Fun K "idle" "idle" sID f fd) (R : CROk P w K mg base C) (ml : mg "len" = none) (mm : mg "max" = none) : FnOk P w K mg base (L2.CX P w) 4 f fd ["row"] (spID C) := by
  obtain ⟨fR, fdR, G, gm, gk, gb⟩ := R.ex
  refine F.okX scID (fun vs H Q E h => ?_) (fun cdv A outer s H vs Q E hr h => ?_)
  · obtain ⟨x, rfl, _⟩ := h
    rfl
  · obtain ⟨x, rfl, hl, q1, q2⟩ := h
    refine ⟨_, pss_cons (ps_expr (pe_call (E := E) G hr rfl gm gk gb .nil (passes_call (takes_of rfl rfl rfl rfl) (fun _ _ _ _ z => z)) (pa_cons (pv 0) pa_nil)))
      (pss_one (ps_ret (pe_callB (cr_max rfl) (by rfl) mm (by decide +kernel) (pa_cons (pe_lc (own := [("run", 1)]) (g := gName 1) (tt := tYes) rfl scID.nd (pi_list (pe_split (pv 0) pe_str))
        (blkOk_by (N := ["row", "run"]) (sc := defScope sID) (by decide +kernel)) (fun _ _ _ _ _ => pg_name (i := 1) scID.nd rfl (Or.inl rfl)) (fun _ _ _ _ _ => pts_nil)
        (fun _ _ _ _ _ => pe_callB call_len_str (by rfl) ml PySem.boot_len (pa_cons (pv 1) pa_nil))) pa_nil)))), ?_⟩
    refine ⟨_, rfl, x, rfl, hl, fun e H1 s1 => ?_, q2⟩
    refine ⟨_, rfl, ⟨_, rfl⟩, x, _, rfl, rfl, rfl, ?_, fun p1 n1 => ?_⟩
    · rw [len_tl]
      exact Nat.le_trans (Nat.add_le_add_right hl 2) (by decide)
    refine ⟨p1, rfl, ⟨_, SqL.of upd_same⟩, fun D nD => ?_⟩
    have eD1 : p1 ≠ D := ne_of_none upd_same nD
    have sD : Same H (upd H1 p1 (.lst ((Txt.split x "1").map V.str))) := s1.trans (same_new n1)
    have nDH : H D = none := sD.free nD
    have el : ((Txt.split x "1").map (fun z => z.length)) = runL 0 (tl x) := split_len rfl
    have ez : (Txt.split x "1").map (fun z : Str => (z.length : Int)) = (runL 0 (tl x)).map (fun (n : Nat) => (n : Int)) := by
      rw [← el, List.map_map]
      rfl
    refine lc_list (K := K) (a := p1) (xs := (Txt.split x "1").map V.str) (fun i H2 => Same H H2 ∧ H2 p1 = some (.lst ((Txt.split x "1").map V.str)) ∧ H2 D = some (.lst ((((runL 0 (tl x)).map (fun (n : Nat) => (n : Int))).take i).map V.int)))
      ⟨same_put sD nDH, by rw [upd_ne eD1, upd_same], upd_same⟩ (fun i H2 _ h => SqL.of h.2.1) (fun i v H2 hv h => ?_) (fun H2 h => ?_)
    · obtain ⟨s2, h2, h3⟩ := h
      rw [List.getElem?_map] at hv
      cases hz : (Txt.split x "1")[i]? with
      | none =>
        rw [hz] at hv
        cases hv
      | some z =>
        rw [hz] at hv
        obtain rfl : V.str z = v := Option.some.inj hv
        have hg : ((runL 0 (tl x)).map (fun (n : Nat) => (n : Int)))[i]? = some (z.length : Int) := by
          rw [← ez, List.getElem?_map, hz]
          rfl
        have hzl : z.length ≤ sizeLine := by
          have : z.length ∈ runL 0 (tl x) := by
            rw [← el]
            exact List.mem_map.mpr ⟨z, List.mem_of_getElem? hz, rfl⟩
          exact Nat.le_trans (runL_le _ _ _ this) (Nat.le_trans (by omega : 0 + (tl x).length ≤ 1000) (by decide))
        refine ⟨rfl, _, rfl, z, rfl, hzl, _, h3, ?_, same_put s2 nDH, ?_, ?_⟩
        · rw [List.length_map, List.length_take, List.length_map]
          exact Nat.lt_of_le_of_lt (Nat.le_trans (Nat.min_le_right _ _) (Nat.le_trans (runL_len (tl x) 0) (by omega : _ ≤ 1001))) (by decide)
        · rw [upd_ne eD1]
          exact h2
        · rw [upd_same, List.take_add_one, hg, List.map_append]
          rfl
    · obtain ⟨s2, h2, h3⟩ := h
      have hn : ((Txt.split x "1").map V.str).length = ((runL 0 (tl x)).map (fun (n : Nat) => (n : Int))).length := by
        rw [← ez, List.length_map, List.length_map]
      rw [hn, List.take_length] at h3
      refine ⟨D, (runL 0 (tl x)).map (fun (n : Nat) => (n : Int)), rfl, SqL.of h3, ?_, fun m hm hle => ?_⟩
      · rw [List.length_map]
        exact List.length_pos_iff.mpr (runL_ne _ _)
      · have := q1 e H2 s2
        rw [idle_is (pure_of e) (t := m) ⟨hm, hle⟩] at this
        exact this
/-! holds -/
abbrev sHO : Stmt := topS 25
theorem scHO : FnScope ["row", "piece"] ["row", "piece"] (defScope sHO) := ⟨rfl, rfl, rfl, by decide +kernel, rfl, by decide +kernel, by decide +kernel⟩
def inStr (y x : Str) : Bool := !(Builtin.Str.occurrences x y 0 x.length 1).isEmpty
def spHO (C : Addr) : Sp := fun vs H Q E => ∃ x y : Str, vs = [.str x, .str y] ∧ (tl x).length ≤ 1000 ∧ (tl y).length ≤ 1000 ∧ (strange (tl x) = none → strange (tl y) = none → ∀ H', Same H H' → Q (.bl (inStr y x)) H') ∧ rowOut C x H E ∧ (strange (tl x) = none → rowOut C y H E)
theorem ok_ho {f C : Addr} {fd : FuncData} (F : Fun K "holds" "holds" sHO f fd) (R : CROk P w K mg base C) : FnOk P w K mg base (L2.CX P w) 4 f fd ["row", "piece"] (spHO C) := by
  obtain ⟨fR, fdR, G, gm, gk, gb⟩ := R.ex
  refine F.okX scHO (fun vs H Q E h => ?_) (fun cdv A outer s H vs Q E hr h => ?_)
  · obtain ⟨x, y, rfl, _⟩ := h
    rfl
  · obtain ⟨x, y, rfl, hl, hl2, q1, q2, q3⟩ := h
    refine ⟨_, pss_cons (ps_expr (pe_call (E := E) G hr rfl gm gk gb .nil (passes_call (takes_of rfl rfl rfl rfl) (fun _ _ _ _ z => z)) (pa_cons (pv 0) pa_nil)))
      (pss_cons (ps_expr (pe_call (E := E) G hr rfl gm gk gb .nil (passes_call (takes_of rfl rfl rfl rfl) (fun _ _ _ _ z => z)) (pa_cons (pv 1) pa_nil)))
      (pss_one (ps_ret (pe_cmpR op_in_str (pv 1) (pv 0) (by rfl))))), ?_⟩
    refine ⟨_, rfl, x, rfl, hl, fun e H1 s1 => ?_, q2⟩
    refine ⟨_, rfl, y, rfl, hl2, fun e2 H2 s2 => ?_, (q3 e).same s1⟩
    exact ⟨_, rfl, _, rfl, y, x, rfl, rfl, q1 e e2 H2 (s1.trans s2)⟩
end
end K01

set_option Elab.async false
set_option linter.all false
set_option maxRecDepth 100000
set_option maxHeartbeats 4000000
namespace K01
open PySem PySem.Spec PyProof.Rows L2 Pw TL
section
variable {P : Program} {w : World} {K : PySem.W.Frag} {mg : Str → Option Value} {base : Heap}
/-- the draw's list at p, its script at q -/
def Dr (p q : Addr) (ns : List Int) (H : Hp) : Prop := H q = some (.lst (ns.map V.int)) ∧ ∃ a b c : Int, H p = some (.lst [.ref q, .int a, .int b, .int c]) ∧ 0 ≤ a ∧ 0 ≤ b ∧ 0 ≤ c ∧ c < 2147483647
/-- all but what stands at p is kept -/
def SameX (p : Addr) (H H' : Hp) : Prop := ∀ b o, H b = some o → b ≠ p → H' b = some o
theorem SameX.refl (p : Addr) (H : Hp) : SameX p H H := fun _ _ e _ => e
theorem SameX.trans {p : Addr} {H H1 H2 : Hp} (a : SameX p H H1) (b : SameX p H1 H2) : SameX p H H2 := fun c o e n => b c o (a c o e n) n
theorem SameX.of {p : Addr} {H H1 : Hp} (s : Same H H1) : SameX p H H1 := fun b o e _ => s b o e
theorem SameX.put {p : Addr} {H H1 : Hp} {o : HO} (s : SameX p H H1) : SameX p H (upd H1 p o) := fun b x e n => by
  rw [upd_ne n]
  exact s b x e n
theorem SameX.new {p d : Addr} {H H1 : Hp} {o : HO} (s : SameX p H H1) (n : H1 d = none) : SameX p H (upd H1 d o) := fun b x e ne => by
  have h1 := s b x e ne
  rw [upd_ne (ne_of_none h1 n)]
  exact h1
theorem Dr.ne {p q : Addr} {ns : List Int} {H : Hp} (h : Dr p q ns H) : q ≠ p := by
  obtain ⟨h1, a, b, c, h2, _⟩ := h
  intro e
  rw [e, h2] at h1
  have e2 : [V.ref q, .int a, .int b, .int c] = ns.map V.int := HO.lst.inj (Option.some.inj h1)
  cases ns with
  | nil => simp at e2
  | cons n r => simp at e2
theorem Dr.same {p q : Addr} {ns : List Int} {H H' : Hp} (h : Dr p q ns H) (s : Same H H') : Dr p q ns H' := ⟨s _ _ h.1, let ⟨a, b, c, e, r⟩ := h.2; ⟨a, b, c, s _ _ e, r⟩⟩
theorem Dr.put {p q : Addr} {ns : List Int} {H : Hp} {a b c : Int} (h : H q = some (.lst (ns.map V.int))) (n : q ≠ p) (ha : 0 ≤ a) (hb : 0 ≤ b) (hc : 0 ≤ c) (hc2 : c < 2147483647) : Dr p q ns (upd H p (.lst [.ref q, .int a, .int b, .int c])) :=
  ⟨by rw [upd_ne n]; exact h, a, b, c, upd_same, ha, hb, hc, hc2⟩
/-! _law_open -/
abbrev sOP : Stmt := topS 27
theorem scOP : FnScope ["_law_script"] ["_law_script"] (defScope sOP) := ⟨rfl, rfl, rfl, by decide +kernel, rfl, by decide +kernel, by decide +kernel⟩
def spOP (K : PySem.W.Frag) : Sp := fun vs H Q _ => ∃ (a : Addr) (ns : List Int), vs = [.ref a] ∧ SqL K H a (ns.map V.int) ∧ ∀ H' p q ms, Same H H' → H p = none → Dr p q ms H' → Q (.ref p) H'
theorem ok_op {f : Addr} {fd : FuncData} {k : Nat} (F : Fun K "_law_open" "_law_open" sOP f fd) (ml : mg "list" = none) : FnOk P w K mg base CX0 (k + 1) f fd ["_law_script"] (spOP K) := by
  refine F.ok scOP (fun vs H Q E h => ?_) (fun cdv A outer s H vs Q E hr h => ?_)
  · obtain ⟨a, ns, rfl, _⟩ := h
    rfl
  · obtain ⟨a, ns, rfl, hS, q⟩ := h
    refine ⟨_, pss_one (ps_ret (pe_lst (pa_cons (pe_callTy call_list_of (by rfl) ml (by decide +kernel) (pa_cons (pe_slice sl_list (pv 0) po_none (po_some pe_int)) pa_nil)) (pa_cons pe_int (pa_cons pe_int (pa_cons pe_int pa_nil)))))), ?_⟩
    refine ⟨.ref a, rfl, 63, rfl, a, _, rfl, hS, fun p1 n1 => ?_⟩
    refine ⟨p1, _, rfl, .inl (SqL.of upd_same), fun q1 n2 => ⟨by show 4 ≤ sizeLine; decide, fun p n3 => ?_⟩⟩
    have e2 : q1 ≠ p := ne_of_none upd_same n3
    have ec : cutV (ns.map V.int) none (some 63) = (ns.take 63).map V.int := by
      unfold cutV
      rw [show HT.sIx (ns.map V.int).length (ns.map V.int).length (some 63) = min 63 (ns.map V.int).length from HT.sIx_nat _ _ 63]
      show List.take (min 63 (ns.map V.int).length - 0) (ns.map V.int) = _
      rw [Nat.sub_zero, List.map_take]
      exact (List.take_eq_take_min).symm
    have s2 : Same H (upd (upd H p1 (.lst (cutV (ns.map V.int) none (some 63)))) q1 (.lst (cutV (ns.map V.int) none (some 63)))) := (same_new n1).trans (same_new n2)
    refine q _ p q1 (ns.take 63) (s2.trans (same_new n3)) (s2.free n3) ⟨?_, 0, 0, 37, upd_same, by decide, by decide, by decide, by decide⟩
    rw [upd_ne e2, upd_same, ec]
/-! _law_pull -/
abbrev sPU : Stmt := topS 28
theorem scPU : FnScope ["_law_draw", "_law_total_of", "_law_cell", "_law_got", "_law_seed"] ["_law_draw", "_law_total_of"] (defScope sPU) := ⟨rfl, rfl, rfl, by decide +kernel, rfl, by decide +kernel, by decide +kernel⟩
def spPU : Sp := fun vs H Q _ => ∃ (p q : Addr) (ns : List Int) (n : Int), vs = [.ref p, .int n] ∧ 0 < n ∧ n < 1073741824 ∧ Dr p q ns H ∧ ∀ v H', 0 ≤ v → v < n → SameX p H H' → Dr p q ns H' → Q (.int v) H'
/-- behind the drawing of a cell: the last two ways -/
theorem ok_pu {f : Addr} {fd : FuncData} {k : Nat} (F : Fun K "_law_pull" "_law_pull" sPU f fd) (ml : mg "len" = none) : FnOk P w K mg base CX0 (k + 1) f fd ["_law_draw", "_law_total_of"] spPU := by
  refine F.ok scPU (fun vs H Q E h => ?_) (fun cdv A outer s H vs Q E hr h => ?_)
  · obtain ⟨p, q, ns, n, rfl, _⟩ := h
    rfl
  · obtain ⟨p, q, ns, n, rfl, n0, n1, hD, k⟩ := h
    refine ⟨_, C8.pss_cut (ps_if (PW.pt (pw_and (pt_cmpR op_lt (pe_ix ix_list (pv 0) pe_int (fun _ _ => rfl)) (pv 1) (nomark _))
          (pw_and1 (pt_cmpR op_lt (pe_ix ix_list (pv 0) pe_int (fun _ _ => rfl)) (pe_callB call_len_seq (by rfl) ml PySem.boot_len (pa_cons (pe_ix ix_list (pv 0) pe_int (fun _ _ => rfl)) pa_nil)) (nomark _)))))
        (pss_cons (ps_set (i := 2) scPU.nd rfl (.inl rfl) (pe_ix ix_list (pe_ix ix_list (pv 0) pe_int (fun _ _ => rfl)) (pe_ix ix_list (pv 0) pe_int (fun _ _ => rfl)) (fun _ _ => rfl)))
        (pss_cons (ps_asg (pe_op op_add (pe_ix ix_list (pv 0) pe_int (fun _ _ => rfl)) pe_int) (pg_sub (pv 0) pe_int set_list))
        (pss_cons (ps_asg pe_int (pg_sub (pv 0) pe_int set_list))
        (pss_one (ps_if (pt_cmpR op_ge (pv 2) (pe_op op_pow pe_int pe_int) (nomark _)) (pss_one (ps_asg (pv 2) (pg_sub (pv 0) pe_int set_list)))
          (pss_one (ps_asg (pe_op op_modN (pe_op op_add (pe_op op_add (pe_op op_mul (pe_ix ix_list (pv 0) pe_int (fun _ _ => rfl)) pe_int) (pe_op op_mul (pe_op op_modN (pv 2) pe_int) pe_int)) pe_int) pe_int) (pg_sub (pv 0) pe_int set_list)))))))) pss_nil)
      (pss_cons (ps_if (pt_cmpR op_ge (pe_ix ix_list (pv 0) pe_int (fun _ _ => rfl)) (pv 1) (nomark _))
        (pss_cons (ps_set (i := 3) scPU.nd rfl (.inl rfl) (pe_op op_modN (pe_ix ix_list (pv 0) pe_int (fun _ _ => rfl)) (pv 1)))
        (pss_cons (ps_asg (pe_op op_fdivN (pe_ix ix_list (pv 0) pe_int (fun _ _ => rfl)) (pv 1)) (pg_sub (pv 0) pe_int set_list)) (pss_one (ps_ret (pv 3))))) pss_nil)
      (pss_cons (ps_set (i := 4) scPU.nd rfl (.inl rfl) (pe_ix ix_list (pv 0) pe_int (fun _ _ => rfl)))
      (pss_cons (ps_asg (pe_op op_modN (pe_op op_add (pe_op op_add (pe_op op_mul (pe_op op_modN (pe_op op_mul (pv 4) (pv 4)) pe_int) pe_int) (pe_op op_mul (pv 4) pe_int)) pe_int) pe_int) (pg_sub (pv 0) pe_int set_list))
      (pss_one (ps_ret (pe_op op_modN (pe_op op_add (pe_op op_fdivN (pe_ix ix_list (pv 0) pe_int (fun _ _ => rfl)) pe_int) (pe_op op_mul (pe_op op_modN (pe_ix ix_list (pv 0) pe_int (fun _ _ => rfl)) pe_int) pe_int)) (pv 1))))))), ?_⟩
    have nq := hD.ne
    refine ⟨fun σ H1 => (∃ y, σ = [some (.ref p), some (.int n), y, none, none]) ∧ SameX p H H1 ∧ Dr p q ns H1, ?_, ?_⟩
    · obtain ⟨hq, a, b, c, hp, ha, hb, hc, hc2⟩ := id hD
      refine ⟨.ref p, rfl, p, _, 2, .int b, rfl, rfl, SqL.of hp, rfl, _, rfl, b, n, rfl, rfl, _, rfl, ?_⟩
      by_cases hbn : b < n
      · rw [decide_eq_true hbn]
        refine iteT ⟨.ref p, rfl, p, _, 1, .int a, rfl, rfl, SqL.of hp, rfl, .ref p, rfl, p, _, 0, .ref q, rfl, rfl, SqL.of hp, rfl, q, _, rfl, .inl (SqL.of hq), a, _, rfl, rfl, _, rfl, ?_⟩
        by_cases hal : a < ((ns.map V.int).length : Int)
        · rw [decide_eq_true hal]
          have hi : a.toNat < ns.length := by
            rw [List.length_map] at hal
            omega
          have ea : a = ((a.toNat : Nat) : Int) := by omega
          have hz : atI (ns.map V.int) a = some (.int ns[a.toNat]) := by
            refine at_of ea ?_
            rw [List.getElem?_map, List.getElem?_eq_getElem hi]
            rfl
          refine iteT ⟨.ref p, rfl, p, _, 0, .ref q, rfl, rfl, SqL.of hp, rfl, .ref p, rfl, p, _, 1, .int a, rfl, rfl, SqL.of hp, rfl, q, _, a, .int ns[a.toNat], rfl, rfl, SqL.of hq, hz, ?_⟩
          refine ⟨.ref p, rfl, p, _, 1, .int a, rfl, rfl, SqL.of hp, rfl, a, 1, rfl, rfl, .ref p, rfl, p, _, 1, 1, rfl, rfl, hp, rfl, ?_⟩
          have hp1 : upd H p (.lst [.ref q, .int (a + 1), .int b, .int c]) p = some (.lst [.ref q, .int (a + 1), .int b, .int c]) := upd_same
          refine ⟨.ref p, rfl, p, _, 2, 2, rfl, rfl, hp1, rfl, ?_⟩
          have hp2 : upd (upd H p (.lst [.ref q, .int (a + 1), .int b, .int c])) p (.lst [.ref q, .int (a + 1), .int 0, .int c]) p = some (.lst [.ref q, .int (a + 1), .int 0, .int c]) := upd_same
          have hq2 : upd (upd H p (.lst [.ref q, .int (a + 1), .int b, .int c])) p (.lst [.ref q, .int (a + 1), .int 0, .int c]) q = some (.lst (ns.map V.int)) := by rw [upd_ne nq, upd_ne nq]; exact hq
          refine ⟨_, rfl, 10, 18, rfl, rfl, ⟨by decide, by decide, by decide⟩, ns[a.toNat], 10 ^ 18, rfl, rfl, _, rfl, ?_⟩
          refine ite2 (fun hge => ?_) (fun hge => ?_)
          · have hge : (10 : Int) ^ 18 ≤ ns[a.toNat] := of_decide_eq_true hge
            refine ⟨_, rfl, .ref p, rfl, p, _, 2, 2, rfl, rfl, hp2, rfl, ⟨some (.int ns[a.toNat]), rfl⟩, ?_, ?_⟩
            · exact ((SameX.refl p H).put.put).put
            · exact Dr.put hq2 nq (by omega) (by omega) hc hc2
          · refine ⟨.ref p, rfl, p, _, 3, .int c, rfl, rfl, SqL.of hp2, rfl, c, 40692, rfl, rfl, .inr ⟨by decide, by decide⟩, _, rfl, _, 2147483629, rfl, rfl, (show (2147483629 : Int) ≠ 0 by decide), _, 69069, rfl, rfl, .inr ⟨by decide, by decide⟩, _, _, rfl, rfl, _, 7919, rfl, rfl, _, 2147483647, rfl, rfl, (show (2147483647 : Int) ≠ 0 by decide), .ref p, rfl, p, _, 3, 3, rfl, rfl, hp2, rfl, ⟨some (.int ns[a.toNat]), rfl⟩, ?_, ?_⟩
            · exact ((SameX.refl p H).put.put).put
            · refine Dr.put hq2 nq (by omega) (by omega) ?_ ?_
              · exact Int.fmod_nonneg_of_pos _ (by decide)
              · exact Int.fmod_lt_of_pos _ (by decide)
        · rw [decide_eq_false hal]
          exact iteF ⟨⟨none, rfl⟩, SameX.refl p H, hD⟩
      · rw [decide_eq_false hbn]
        exact iteF (iteF ⟨⟨none, rfl⟩, SameX.refl p H, hD⟩)
    · rintro σ H1 ⟨⟨y, rfl⟩, sx, hD1⟩
      obtain ⟨hq, a, b, c, hp, ha, hb, hc, hc2⟩ := id hD1
      refine ⟨.ref p, rfl, p, _, 2, .int b, rfl, rfl, SqL.of hp, rfl, _, rfl, b, n, rfl, rfl, _, rfl, ?_⟩
      refine ite2 (fun hge => ?_) (fun hge => ?_)
      · refine ⟨.ref p, rfl, p, _, 2, .int b, rfl, rfl, SqL.of hp, rfl, _, rfl, b, n, rfl, rfl, by omega, ?_⟩
        refine ⟨.ref p, rfl, p, _, 2, .int b, rfl, rfl, SqL.of hp, rfl, _, rfl, b, n, rfl, rfl, ⟨by omega, by omega⟩, .ref p, rfl, p, _, 2, 2, rfl, rfl, hp, rfl, _, rfl, ?_⟩
        refine k _ _ (Int.fmod_nonneg_of_pos _ n0) (Int.fmod_lt_of_pos _ n0) sx.put (Dr.put hq nq ha ?_ hc hc2)
        rw [Int.fdiv_eq_ediv_of_nonneg _ (by omega)]
        exact Int.ediv_nonneg hb (by omega)
      · refine ⟨.ref p, rfl, p, _, 3, .int c, rfl, rfl, SqL.of hp, rfl, ?_⟩
        refine ⟨_, rfl, _, rfl, c, c, rfl, rfl, .inl ⟨by omega, by omega⟩, _, 2147483587, rfl, rfl, (show (2147483587 : Int) ≠ 0 by decide), _, 3, rfl, rfl, .inr ⟨by decide, by decide⟩, _, rfl, c, 48271, rfl, rfl, .inr ⟨by decide, by decide⟩, _, _, rfl, rfl, _, 1013904223, rfl, rfl, _, 2147483647, rfl, rfl, (show (2147483647 : Int) ≠ 0 by decide), .ref p, rfl, p, _, 3, 3, rfl, rfl, hp, rfl, ?_⟩
        refine ⟨.ref p, rfl, p, _, 3, _, rfl, rfl, SqL.of upd_same, rfl, _, 61, rfl, rfl, ⟨by decide, by decide⟩, .ref p, rfl, p, _, 3, _, rfl, rfl, SqL.of upd_same, rfl, _, 8209, rfl, rfl, (show (8209 : Int) ≠ 0 by decide), _, 29, rfl, rfl, .inr ⟨by decide, by decide⟩, _, _, rfl, rfl, _, rfl, _, n, rfl, rfl, by omega, ?_⟩
        exact k _ _ (Int.fmod_nonneg_of_pos _ n0) (Int.fmod_lt_of_pos _ n0) sx.put (Dr.put hq nq ha hb (Int.fmod_nonneg_of_pos _ (by decide)) (Int.fmod_lt_of_pos _ (by decide)))
end
section
variable {P : Program} {w : World} {K : PySem.W.Frag} {mg : Str → Option Value} {base : Heap}
/-- pull as its callers have it -/
structure PUOk (P : Program) (w : World) (K : PySem.W.Frag) (mg : Str → Option Value) (base : Heap) : Prop where
  ex : ∃ (f : Addr) (fd : FuncData), FnOk P w K mg base CX0 1 f fd ["_law_draw", "_law_total_of"] spPU ∧ mg "_law_pull" = some (.ref f) ∧ PySem.W.keepIn K (.ref f) = true ∧ Binds K fd ["_law_draw", "_law_total_of"] []
/-! _law_row -/
abbrev sRO : Stmt := topS 31
theorem scRO : FnScope ["_law_draw", "_law_many", "_law_k"] ["_law_draw", "_law_many"] (defScope sRO) := ⟨rfl, rfl, rfl, by decide +kernel, rfl, by decide +kernel, by decide +kernel⟩
def spRO : Sp := fun vs H Q _ => ∃ (p q : Addr) (ns : List Int) (n : Nat), vs = [.ref p, .int (n : Nat)] ∧ n ≤ 1000 ∧ Dr p q ns H ∧ ∀ (x : Str) H', Pure (tl x) → (tl x).length = n → SameX p H H' → Dr p q ns H' → Q (.str x) H'
/-- texts of one sign each, 0 or 1 -/
def Signs (l : List Nat) : List V := l.map fun c => V.str ⟨#[c]⟩
theorem join_signs : ∀ l : List Nat, tl (Txt.join Str.empty (l.map fun c => (⟨#[c]⟩ : Str))) = l := by
  intro l
  rw [join_eq]
  have gen : ∀ l : List Nat, tl (Str.join Str.empty (l.map fun c => (⟨#[c]⟩ : Str))) = l := by
    intro l
    induction l with
    | nil => rfl
    | cons c r ih =>
      cases r with
      | nil => rfl
      | cons d r =>
        have e : Str.join Str.empty ((c :: d :: r).map fun c => (⟨#[c]⟩ : Str)) = (⟨#[c]⟩ : Str) ++ Str.empty ++ Str.join Str.empty ((d :: r).map fun c => (⟨#[c]⟩ : Str)) := by
          first
            | rfl
            | simp [Str.join]
        rw [e, tl_append, tl_append, ih]
        rfl
  exact gen l
theorem ok_ro {f : Addr} {fd : FuncData} (F : Fun K "_law_row" "_law_row" sRO f fd) (R : PUOk P w K mg base) (mr : mg "range" = none) : FnOk P w K mg base CX0 2 f fd ["_law_draw", "_law_many"] spRO := by
  obtain ⟨fR, fdR, G, gm, gk, gb⟩ := R.ex
  refine F.ok scRO (fun vs H Q E h => ?_) (fun cdv A outer s H vs Q E hr h => ?_)
  · obtain ⟨p, q, ns, n, rfl, _⟩ := h
    rfl
  · obtain ⟨p, q, ns, n, rfl, hn, hD, k⟩ := h
    refine ⟨_, pss_one (ps_ret (pe_join pe_str (pe_lc (own := [("_law_k", 2)]) (g := gName 2) (tt := tYes) rfl scRO.nd (pi_range1 rfl mr (pa_cons (pv 1) pa_nil))
        (blkOk_by (N := ["_law_draw", "_law_many", "_law_k"]) (sc := defScope sRO) (by decide +kernel)) (fun _ _ _ _ _ => pg_name (i := 2) scRO.nd rfl (Or.inl rfl)) (fun _ _ _ _ _ => pts_nil)
        (fun _ _ _ _ _ => pe_ix ix_str pe_str (pe_call G hr rfl gm gk gb .nil pass0 (pa_cons (pv 0) (pa_cons pe_int pa_nil))) (fun _ _ => rfl))))), ?_⟩
    have pD : ∀ {D : Addr}, H D = none → D ≠ p := fun {D} nD e => by
      obtain ⟨_, a, b, c, hp, _⟩ := hD
      rw [e, hp] at nD
      cases nD
    refine ⟨⟨_, rfl⟩, _, rfl, (n : Int), rfl, by omega, by omega, fun D nD => ?_⟩
    refine lc_range (lo := 0) (n := n) (fun i H2 => ∃ l : List Nat, Pw.Pure l ∧ l.length = i ∧ SameX p H H2 ∧ Dr p q ns H2 ∧ H2 D = some (.lst (Signs l)))
      ⟨[], (fun c hc => by cases hc), rfl, (SameX.refl p H).new nD, hD.same (same_new nD), upd_same⟩ (fun i H2 hi h => ?_) (fun H2 h => ?_)
    · obtain ⟨l, hl, hll, sx, hD2, h2⟩ := h
      refine ⟨rfl, .ref p, rfl, p, q, ns, 2, rfl, by decide, by decide, hD2, fun v H3 h0 h1 sx3 hD3 => ?_⟩
      have h3 : H3 D = some (.lst (Signs l)) := sx3 _ _ h2 (pD nD)
      have fin : ∀ c : Nat, (c = 48 ∨ c = 49) → ∃ acc, H3 D = some (.lst acc) ∧ acc.length < sizeLine ∧ ∃ l : List Nat, Pw.Pure l ∧ l.length = i + 1 ∧ SameX p H (upd H3 D (.lst (acc ++ [.str ⟨#[c]⟩]))) ∧ Dr p q ns (upd H3 D (.lst (acc ++ [.str ⟨#[c]⟩]))) ∧ (upd H3 D (.lst (acc ++ [.str ⟨#[c]⟩]))) D = some (.lst (Signs l)) := fun c hc => by
        refine ⟨_, h3, ?_, l ++ [c], ?_, ?_, ?_, ?_, ?_⟩
        · unfold Signs
          rw [List.length_map]
          exact small1000 (by omega)
        · intro d hd
          rcases List.mem_append.mp hd with z | z
          · exact hl d z
          · obtain rfl : d = c := by simpa using z
            exact hc
        · rw [List.length_append, hll]
          rfl
        · intro b o e ne
          rw [upd_ne (ne_of_none e nD)]
          exact sx3 b o (sx b o e ne) ne
        · obtain ⟨e1, a, b, c, e2, r⟩ := hD3
          have n1 : q ≠ D := ne_of_none hD.1 nD
          exact ⟨by rw [upd_ne n1]; exact e1, a, b, c, by rw [upd_ne (Ne.symm (pD nD))]; exact e2, r⟩
        · rw [upd_same]
          unfold Signs
          rw [List.map_append]
          rfl
      have hv : v = 0 ∨ v = 1 := by omega
      rcases hv with rfl | rfl
      · exact ⟨"01", 0, 48, rfl, rfl, by decide, rfl, fin 48 (.inl rfl)⟩
      · exact ⟨"01", 1, 49, rfl, rfl, by decide, rfl, fin 49 (.inr rfl)⟩
    · obtain ⟨l, hl, hll, sx, hD2, h2⟩ := h
      have e2 : Signs l = (l.map fun c => (⟨#[c]⟩ : Str)).map V.str := by
        unfold Signs
        rw [List.map_map]
        rfl
      rw [e2] at h2
      refine ⟨_, D, (l.map fun c => (⟨#[c]⟩ : Str)), rfl, rfl, .inl (SqL.of h2), ?_, ?_⟩
      · have e3 : ((l.map fun c => (⟨#[c]⟩ : Str)).map (·.length)).sum = l.length := by
          rw [List.map_map]
          clear e2 h2 hll hl
          induction l with
          | nil => rfl
          | cons c r ih =>
            rw [List.map_cons, List.sum_cons, ih, List.length_cons, Nat.add_comm]
            rfl
        rw [e3]
        show l.length + (l.map _).length * 0 ≤ _
        omega
      · refine k _ H2 ?_ ?_ sx hD2
        · rw [show Str.ofString "" = Str.empty from rfl, join_signs]
          exact hl
        · rw [show Str.ofString "" = Str.empty from rfl, join_signs]
          exact hll
end
end K01

set_option Elab.async false
set_option linter.all false
set_option maxRecDepth 100000
set_option maxHeartbeats 4000000
namespace K01
open PySem PySem.Spec PyProof.Rows L2 Pw TL
section
variable {P : Program} {w : World} {K : PySem.W.Frag} {mg : Str → Option Value} {base : Heap}
/-! _law_bad_at -/
abbrev sBA : Stmt := topS 32
theorem scBA : FnScope ["_law_text", "_law_bad", "_law_at"] ["_law_text"] (defScope sBA) := ⟨rfl, rfl, rfl, by decide +kernel, rfl, by decide +kernel, by decide +kernel⟩
def spBA : Sp := fun vs H Q _ => ∃ x : Str, vs = [.str x] ∧ (tl x).length ≤ 1000 ∧ ∀ H', Same H H' → Q (vOpt (strange (tl x))) H'
/-- the places of strangers below n -/
def bads (l : List Nat) (n : Nat) : List Int := ((List.range n).filter fun i => (l[i]?.map bad).getD false).map fun (i : Nat) => (i : Int)
theorem bads_snoc {l : List Nat} {n c : Nat} (h : l[n]? = some c) : bads l (n + 1) = bads l n ++ (if bad c = true then [(n : Int)] else []) := by
  unfold bads
  rw [List.range_succ, List.filter_append, List.map_append]
  congr 1
  cases hb : bad c <;> simp [h, hb]
theorem bads_head (l : List Nat) : (bads l l.length).head? = (strange l).map fun (i : Nat) => (i : Int) := by
  have gen : ∀ n, n ≤ l.length → (bads l n).head? = ((strange (l.take n)).map fun (i : Nat) => (i : Int)) := by
    intro n
    induction n with
    | zero => intro _; rfl
    | succ n ih =>
      intro hn
      have hg : l[n]? = some l[n] := List.getElem?_eq_getElem (by omega)
      have ih := ih (by omega)
      rw [bads_snoc hg, take_snoc hg, List.head?_append, ih]
      unfold strange
      rw [List.findIdx?_append]
      cases hs : (l.take n).findIdx? bad with
      | some i => rfl
      | none =>
        cases hb : bad l[n] with
        | false => simp [hb]
        | true =>
          simp [hb, List.length_take]
          omega
  have := gen l.length (Nat.le_refl _)
  rw [List.take_length] at this
  exact this
theorem bads_len (l : List Nat) (n : Nat) : (bads l n).length ≤ n := by
  unfold bads
  rw [List.length_map]
  exact Nat.le_trans (List.length_filter_le _ _) (by rw [List.length_range]; exact Nat.le_refl _)
theorem not01 (c : Nat) : (!decide (c ∈ (Str.ofString "01").cps.toList)) = bad c := by
  have e : (Str.ofString "01").cps.toList = [48, 49] := rfl
  rw [e]
  unfold bad
  by_cases h0 : c = 48
  · subst h0; rfl
  · by_cases h1 : c = 49
    · subst h1; rfl
    · simp [h0, h1]
theorem ok_ba {f : Addr} {fd : FuncData} {k : Nat} (F : Fun K "_law_bad_at" "_law_bad_at" sBA f fd) (mr : mg "range" = none) (ml : mg "len" = none) : FnOk P w K mg base CX0 (k + 1) f fd ["_law_text"] spBA := by
  refine F.ok scBA (fun vs H Q E h => ?_) (fun cdv A outer s H vs Q E hr h => ?_)
  · obtain ⟨x, rfl, _⟩ := h
    rfl
  · obtain ⟨x, rfl, hl, q⟩ := h
    have hz : x.length ≤ sizeLine := by
      rw [len_tl]
      exact Nat.le_of_lt (small1000 hl)
    refine ⟨_, pss_cons (ps_setLc (i := 1) (own := [("_law_at", 2)]) (g := gName 2) rfl scBA.nd rfl rfl (sw_true rfl rfl rfl (by decide +kernel)) (pi_range1 rfl mr (pa_cons (pe_callB call_len_str (by rfl) ml PySem.boot_len (pa_cons (pv 0) pa_nil)) pa_nil))
        (blkOk_by (N := ["_law_text", "_law_bad", "_law_at"]) (sc := defScope sBA) (by decide +kernel)) (fun _ _ _ _ _ => pg_name (i := 2) scBA.nd rfl (Or.inl rfl))
        (fun _ _ _ _ _ => pts_one (pt_cmpR op_notIn_sign (pe_ix ix_str (pv 0) (pv 2) (fun _ _ => rfl)) pe_str (by rfl))) (fun _ _ _ _ _ => pv 2))
      (pss_one (ps_ret (pe_ifExp (pt_cmpR (op_neD hr.units) (pv 1) (pe_lst pa_nil) (nomark _)) (pe_ix ix_list (pv 1) pe_int (fun _ _ => rfl)) pe_non))), ?_⟩
    refine ⟨_, rfl, x, rfl, hz, (x.length : Int), rfl, by omega, ?_, fun D nD => ?_⟩
    · rw [len_tl]
      omega
    refine lc_range (lo := 0) (n := x.length) (fun i H2 => Same H H2 ∧ H2 D = some (.lst ((bads (tl x) i).map V.int))) ⟨same_new nD, upd_same⟩ (fun i H2 hi h => ?_) (fun H2 h => ?_)
    · obtain ⟨s2, h2⟩ := h
      have hi2 : i < (tl x).length := by rw [← len_tl]; exact hi
      have hg : (tl x)[i]? = some (tl x)[i] := List.getElem?_eq_getElem hi2
      refine ⟨rfl, _, rfl, _, rfl, x, (0 + (i : Int)), (tl x)[i], rfl, rfl, hz, ?_, (tl x)[i], _, rfl, rfl, _, rfl, ?_⟩
      · rw [Int.zero_add]
        exact atI_nat hg
      rw [not01]
      have sn := bads_snoc hg
      cases hb : bad (tl x)[i] with
      | true =>
        rw [hb, if_pos rfl] at sn
        refine iteT ⟨_, rfl, _, h2, ?_, same_put s2 nD, ?_⟩
        · rw [List.length_map]
          exact Nat.lt_of_le_of_lt (bads_len _ _) (small1000 (by omega))
        · rw [upd_same, sn, List.map_append, Int.zero_add]
          rfl
      | false =>
        rw [hb, if_neg (by decide), List.append_nil] at sn
        refine iteF ⟨s2, ?_⟩
        rw [sn]
        exact h2
    · obtain ⟨s2, h2⟩ := h
      rw [len_tl] at h2
      have hd := bads_head (tl x)
      refine ⟨_, rfl, by show 0 ≤ sizeLine; decide, fun r nr => ?_⟩
      have s3 : Same H (upd H2 r (.lst [])) := s2.trans (same_new nr)
      have h3 : upd H2 r (.lst []) D = some (.lst ((bads (tl x) (tl x).length).map V.int)) := by
        rw [upd_ne (ne_of_none h2 nr)]
        exact h2
      refine ⟨.list ((bads (tl x) (tl x).length).map PyData.int), .list [], .lst (SqL.of h3) ?_, .lst (SqL.of upd_same) .nil, ?_, rfl, _, rfl, ?_⟩
      · generalize bads (tl x) (tl x).length = l
        induction l with
        | nil => exact .nil
        | cons a r ih => exact .cons (.int a) ih
      · exact PySem.W.shaped_ints _
      · cases hs : strange (tl x) with
        | none =>
          rw [hs] at hd
          have e0 : bads (tl x) (tl x).length = [] := List.head?_eq_none_iff.mp hd
          rw [e0]
          refine iteF ?_
          have := q _ s3
          rw [hs] at this
          exact this
        | some i =>
          rw [hs] at hd
          obtain ⟨r2, e0⟩ : ∃ r2, bads (tl x) (tl x).length = (i : Int) :: r2 := by
            cases hb : bads (tl x) (tl x).length with
            | nil =>
              rw [hb] at hd
              cases hd
            | cons a r2 =>
              rw [hb] at hd
              have : a = (i : Int) := Option.some.inj hd
              rw [this]
              exact ⟨r2, rfl⟩
          rw [e0] at h3 ⊢
          refine iteT ⟨_, rfl, D, _, 0, .int (i : Nat), rfl, rfl, SqL.of h3, atI_nat (j := 0) rfl, ?_⟩
          have := q _ s3
          rw [hs] at this
          exact this
/-! _law_row_word -/
abbrev sRW : Stmt := topS 37
theorem scRW : FnScope ["_law_text", "_law_bad"] ["_law_text"] (defScope sRW) := ⟨rfl, rfl, rfl, by decide +kernel, rfl, by decide +kernel, by decide +kernel⟩
/-- the word of a text -/
def rowWord (x : Str) : Str := match strange (tl x) with
  | none => ""
  | some i => (Str.ofString "badrow ") ++ (toString (i : Int) : String)
def spRW : Sp := fun vs H Q _ => ∃ x : Str, vs = [.str x] ∧ (tl x).length ≤ 1000 ∧ ∀ H', Same H H' → Q (.str (rowWord x)) H'
theorem small_log {i : Nat} (h : i ≤ 100000) : (i : Int).natAbs.log2 < 1920 := by
  rw [Int.natAbs_natCast]
  by_cases h0 : i = 0
  · subst h0
    decide
  · exact (Nat.log2_lt h0).mpr (Nat.lt_of_le_of_lt h (Nat.lt_of_lt_of_le (by decide : 100000 < 2 ^ 17) (Nat.pow_le_pow_right (by decide) (by decide))))
theorem word_size {i : Nat} (h : i ≤ 100000) {z : Str} (hz : z.length ≤ 20 := by decide) : z.length + (Str.ofString (toString (i : Int))).length ≤ sizeLine := by
  have h1 : (Str.ofString (toString (i : Int))).length ≤ 1921 := int_text_len_1921 (small_log h)
  exact Nat.le_trans (Nat.add_le_add hz h1) (by decide)
theorem ok_rw {f fB : Addr} {fd fdB : FuncData} (F : Fun K "_law_row_word" "_law_row_word" sRW f fd) (G : FnOk P w K mg base CX0 1 fB fdB ["_law_text"] spBA) (gm : mg "_law_bad_at" = some (.ref fB)) (gk : PySem.W.keepIn K (.ref fB) = true) (gb : Binds K fdB ["_law_text"] []) (ms : mg "str" = none) :
    FnOk P w K mg base CX0 2 f fd ["_law_text"] spRW := by
  refine F.ok scRW (fun vs H Q E h => ?_) (fun cdv A outer s H vs Q E hr h => ?_)
  · obtain ⟨x, rfl, _⟩ := h
    rfl
  · obtain ⟨x, rfl, hl, q⟩ := h
    refine ⟨_, pss_cons (ps_set (i := 1) scRW.nd rfl (.inl rfl) (pe_call G hr rfl gm gk gb .nil pass0 (pa_cons (pv 0) pa_nil)))
      (pss_one (ps_ret (pe_ifExp (pt_cmpR op_isN (pv 1) pe_non (nomark _)) pe_str (pe_op op_add_str pe_str (pe_callTy call_str_int (by rfl) ms (by decide +kernel) (pa_cons (pv 1) pa_nil)))))), ?_⟩
    refine ⟨_, rfl, x, rfl, hl, fun H1 s1 => ?_⟩
    have qq := q H1 s1
    unfold rowWord at qq
    cases hs : strange (tl x) with
    | none =>
      rw [hs] at qq
      exact ⟨.non, rfl, rfl, _, rfl, iteT qq⟩
    | some i =>
      rw [hs] at qq
      have hi := strange_lt hs
      refine ⟨.int (i : Nat), rfl, rfl, _, rfl, iteF ⟨_, rfl, (i : Int), rfl, small_log (by omega), _, _, rfl, rfl, ?_, qq⟩⟩
      exact word_size (by omega)
end
end K01

set_option Elab.async false
set_option linter.all false
set_option maxRecDepth 100000
set_option maxHeartbeats 4000000
namespace K01
open PySem PySem.Spec PyProof.Rows L2 Pw TL
section
variable {P : Program} {w : World} {K : PySem.W.Frag} {mg : Str → Option Value} {base : Heap}
/-! _law_sums -/
abbrev sSU : Stmt := topS 33
theorem scSU : FnScope ["_law_row_here", "_law_found", "_law_sign"] ["_law_row_here"] (defScope sSU) := ⟨rfl, rfl, rfl, by decide +kernel, rfl, by decide +kernel, by decide +kernel⟩
def sumsN (l : List Nat) (n : Nat) : List Int := (List.range n).map fun i => (hiS (l.take i)).1
theorem sumsN_snoc (l : List Nat) (n : Nat) : sumsN l (n + 1) = sumsN l n ++ [(hiS (l.take n)).1] := by
  unfold sumsN
  rw [List.range_succ, List.map_append]
  rfl
theorem sumsN_len (l : List Nat) (n : Nat) : (sumsN l n).length = n := by simp [sumsN]
def spSU : Sp := fun vs H Q _ => ∃ x : Str, vs = [.str x] ∧ (tl x).length ≤ 1000 ∧ Pw.Pure (tl x) ∧ ∀ H' p, Same H H' → H p = none → H' p = some (.lst ((sums (tl x)).map V.int)) → Q (.ref p) H'
theorem ok_su {f : Addr} {fd : FuncData} {k : Nat} (F : Fun K "_law_sums" "_law_sums" sSU f fd) (mi : mg "int" = none) : FnOk P w K mg base CX0 (k + 1) f fd ["_law_row_here"] spSU := by
  refine F.ok scSU (fun vs H Q E h => ?_) (fun cdv A outer s H vs Q E hr h => ?_)
  · obtain ⟨x, rfl, _⟩ := h
    rfl
  · obtain ⟨x, rfl, hl, hp, q⟩ := h
    refine ⟨_, pss_cons (ps_set (i := 1) scSU.nd rfl (.inl rfl) (pe_lst (pa_cons pe_int pa_nil)))
      (pss_cons (ps_for PassesOwn.never rfl (pi_str (pv 0)) (pg_name (i := 2) scSU.nd rfl (.inl rfl))
        (pss_one (ps_expr (pe_bm PySem.F.plainAttrs_list PySem.F.slot_list_append PySem.F.type_list_append mt_append (pv 1)
          (pa_cons (pe_op op_sub (pe_op op_add (pe_ix ix_list (pv 1) (pe_un un_neg pe_int) (fun _ _ => rfl)) (pe_op op_mul pe_int (pe_callTy call_int_str (by rfl) mi (by decide +kernel) (pa_cons (pv 2) pa_nil)))) pe_int) pa_nil)))))
      (pss_one (ps_ret (pv 1)))), ?_⟩
    refine ⟨by show 1 ≤ sizeLine; decide, fun p np => ?_⟩
    refine ⟨.str x, rfl, x, rfl, for_str (x := x) (fun i σ H1 => (∃ y, σ = [some (.str x), some (.ref p), y]) ∧ Same H H1 ∧ H1 p = some (.lst ((sumsN (tl x) (i + 1)).map V.int))) ⟨⟨none, rfl⟩, same_new np, upd_same⟩ ?_ ?_⟩
    · rintro i c σ H1 hc ⟨⟨y, rfl⟩, sm, h1⟩
      have hc' : (tl x)[i]? = some c := by rw [← hc]; exact Array.getElem?_toList
      have hil : i < (tl x).length := (List.getElem?_eq_some_iff.mp hc').1
      have hcp := hp c (List.mem_of_getElem? hc')
      have e := hiS_snoc ((tl x).take i) c
      rw [← take_snoc hc'] at e
      have e1 : (hiS ((tl x).take (i + 1))).1 = Pw.step (hiS ((tl x).take i)).1 c := by rw [e]
      have hat : atI ((sumsN (tl x) (i + 1)).map V.int) (-1) = some (.int (hiS ((tl x).take i)).1) := by
        rw [sumsN_snoc, List.map_append]
        exact atI_last _ _
      have hz : ((sumsN (tl x) (i + 1)).map V.int).length < sizeLine := by
        rw [List.length_map, sumsN_len]
        exact small1000 (by omega)
      have fin : ∀ d : Int, (hiS ((tl x).take i)).1 + 2 * d - 1 = (hiS ((tl x).take (i + 1))).1 →
          (∃ y, ([some (.str x), some (.ref p), some (V.str ⟨#[c]⟩)] : L2.St) = [some (.str x), some (.ref p), y]) ∧ Same H (upd H1 p (.lst ((sumsN (tl x) (i + 1)).map V.int ++ [.int ((hiS ((tl x).take i)).1 + 2 * d - 1)]))) ∧
            upd H1 p (.lst ((sumsN (tl x) (i + 1)).map V.int ++ [.int ((hiS ((tl x).take i)).1 + 2 * d - 1)])) p = some (.lst ((sumsN (tl x) (i + 1 + 1)).map V.int)) := fun d hd => by
        refine ⟨⟨_, rfl⟩, same_put sm np, ?_⟩
        rw [upd_same, sumsN_snoc (tl x) (i + 1), List.map_append, hd]
        rfl
      refine ⟨.ref p, rfl, .inl ⟨rfl, _, SqL.of h1⟩, .ref p, rfl, 1, rfl, p, _, -1, .int (hiS ((tl x).take i)).1, rfl, rfl, SqL.of h1, hat, ?_⟩
      rcases hcp with rfl | rfl
      · refine ⟨_, rfl, ⟨#[48]⟩, 0, rfl, by decide +kernel, by decide, 2, 0, rfl, rfl, .inl ⟨by decide, by decide⟩, _, _, rfl, rfl, _, 1, rfl, rfl, p, _, _, rfl, rfl, h1, hz, fin 0 ?_⟩
        rw [e1]
        unfold Pw.step
        rw [if_neg (by decide)]
        omega
      · refine ⟨_, rfl, ⟨#[49]⟩, 1, rfl, by decide +kernel, by decide, 2, 1, rfl, rfl, .inl ⟨by decide, by decide⟩, _, _, rfl, rfl, _, 1, rfl, rfl, p, _, _, rfl, rfl, h1, hz, fin 1 ?_⟩
        rw [e1]
        unfold Pw.step
        rw [if_pos rfl]
        omega
    · rintro σ H1 ⟨⟨y, rfl⟩, sm, h1⟩
      have e : x.cps.size = (tl x).length := by simp
      rw [e] at h1
      exact ⟨_, rfl, q H1 p sm np h1⟩
/-! _law_gaps -/
abbrev sLG : Stmt := topS 39
theorem scLG : FnScope ["_law_row_here", "_law_found", "_law_last", "_law_at"] ["_law_row_here"] (defScope sLG) := ⟨rfl, rfl, rfl, by decide +kernel, rfl, by decide +kernel, by decide +kernel⟩
def spLG : Sp := fun vs H Q _ => ∃ x : Str, vs = [.str x] ∧ (tl x).length ≤ 1000 ∧ ∀ H' p, Same H H' → H p = none → H' p = some (.lst ((gapsV x).map V.int)) → Q (.ref p) H'
theorem gapL_cons (i : Nat) (o : Option Nat) (c : Nat) (r : List Nat) : gapL i o (c :: r) = if c = 49 then (match o with | some j => [(i : Int) - j - 1] | none => []) ++ gapL (i + 1) (some i) r else gapL (i + 1) o r := rfl
theorem idleL_cons (m h : Int) (c : Nat) (r : List Nat) : idleL m h (c :: r) = idleL (max m (if c = 48 then h + 1 else 0)) (if c = 48 then h + 1 else 0) r := rfl
theorem gapL_len : ∀ (l : List Nat) (i : Nat) (o : Option Nat), (gapL i o l).length ≤ l.length
  | [], _, _ => Nat.le_refl _
  | c :: r, i, o => by
    unfold gapL
    have h1 := gapL_len r (i + 1) (some i)
    have h2 := gapL_len r (i + 1) o
    split
    · rw [List.length_append, List.length_cons]
      cases o with
      | none => simp only [List.length_nil]; omega
      | some j => simp only [List.length_cons, List.length_nil]; omega
    · rw [List.length_cons]
      omega
theorem ok_lg {f : Addr} {fd : FuncData} {k : Nat} (F : Fun K "_law_gaps" "_law_gaps" sLG f fd) (mr : mg "range" = none) (ml : mg "len" = none) : FnOk P w K mg base CX0 (k + 1) f fd ["_law_row_here"] spLG := by
  refine F.ok scLG (fun vs H Q E h => ?_) (fun cdv A outer s H vs Q E hr h => ?_)
  · obtain ⟨x, rfl, _⟩ := h
    rfl
  · obtain ⟨x, rfl, hl, q⟩ := h
    have hz : x.length ≤ sizeLine := by
      rw [len_tl]
      exact Nat.le_of_lt (small1000 hl)
    refine ⟨_, pss_cons (ps_set (i := 1) scLG.nd rfl (.inl rfl) (pe_lst pa_nil))
      (pss_cons (ps_set (i := 2) scLG.nd rfl (.inl rfl) pe_non)
      (pss_cons (ps_for PassesOwn.never rfl (pi_range1 rfl mr (pa_cons (pe_callB call_len_str (by rfl) ml PySem.boot_len (pa_cons (pv 0) pa_nil)) pa_nil)) (pg_name (i := 3) scLG.nd rfl (.inl rfl))
        (pss_one (ps_if (pt_cmpR op_eq (pe_ix ix_str (pv 0) (pv 3) (fun _ _ => rfl)) pe_str (nomark _))
          (pss_cons (ps_if (pt_cmpR op_notN (pv 2) pe_non (nomark _)) (pss_one (ps_expr (pe_bm PySem.F.plainAttrs_list PySem.F.slot_list_append PySem.F.type_list_append mt_append (pv 1) (pa_cons (pe_op op_sub (pe_op op_sub (pv 3) (pv 2)) pe_int) pa_nil)))) pss_nil)
            (pss_one (ps_set (i := 2) scLG.nd rfl (.inl rfl) (pv 3)))) pss_nil)))
      (pss_one (ps_ret (pv 1))))), ?_⟩
    refine ⟨by show 0 ≤ sizeLine; decide, fun p np => ?_⟩
    refine ⟨_, rfl, x, rfl, hz, (x.length : Int), rfl, by omega, by rw [len_tl]; omega, ?_⟩
    refine for_range (lo := 0) (n := x.length) (fun i σ H1 => ∃ (g : List Int) (last : Option Nat) (y : Option V), σ = [some (.str x), some (.ref p), some (vOpt last), y] ∧ Same H H1 ∧ H1 p = some (.lst (g.map V.int)) ∧ g.length ≤ i ∧ g ++ gapL i last ((tl x).drop i) = gapL 0 none (tl x))
      ⟨[], none, none, rfl, same_new np, upd_same, Nat.le_refl _, rfl⟩ (fun i σ H1 hi h => ?_) (fun σ H1 h => ?_)
    · obtain ⟨g, last, y, rfl, sm, h1, hgl, hg⟩ := h
      have hi2 : i < (tl x).length := by rw [← len_tl]; exact hi
      have hgi : (tl x)[i]? = some (tl x)[i] := List.getElem?_eq_getElem hi2
      have hdr : (tl x).drop i = (tl x)[i] :: (tl x).drop (i + 1) := List.drop_eq_getElem_cons hi2
      rw [hdr, gapL_cons] at hg
      refine ⟨_, rfl, _, rfl, x, (0 + (i : Int)), (tl x)[i], rfl, rfl, hz, ?_, rfl, _, rfl, ?_⟩
      · rw [Int.zero_add]
        exact atI_nat hgi
      by_cases h9 : (tl x)[i] = 49
      · rw [if_pos h9] at hg
        rw [decide_eq_true ((one_sign _).2.mpr h9)]
        cases last with
        | none =>
          refine iteT ⟨_, rfl, rfl, _, rfl, iteF ⟨_, rfl, g, some i, some (.int (0 + (i : Int))), ?_, sm, h1, by omega, ?_⟩⟩
          · rw [Int.zero_add]
            rfl
          · rw [← hg]
            rfl
        | some j =>
          have hz2 : (g.map V.int).length < sizeLine := by
            rw [List.length_map]
            exact small1000 (by omega)
          refine iteT ⟨_, rfl, rfl, _, rfl, iteT ⟨.ref p, rfl, .inl ⟨rfl, _, SqL.of h1⟩, _, rfl, .int (j : Nat), rfl, _, _, rfl, rfl, _, 1, rfl, rfl, p, _, _, rfl, rfl, h1, hz2, _, rfl, g ++ [(i : Int) - j - 1], some i, some (.int (0 + (i : Int))), ?_, same_put sm np, ?_, ?_, ?_⟩⟩
          · rw [Int.zero_add]
            rfl
          · rw [upd_same, List.map_append, Int.zero_add]
            rfl
          · rw [List.length_append]
            exact Nat.add_le_add_right hgl 1
          · rw [← hg, List.append_assoc]
      · rw [if_neg h9] at hg
        rw [decide_eq_false (fun z => h9 ((one_sign _).2.mp z))]
        exact iteF ⟨g, last, some (.int (0 + (i : Int))), rfl, sm, h1, by omega, hg⟩
    · obtain ⟨g, last, y, rfl, sm, h1, hgl, hg⟩ := h
      have e : (tl x).drop x.length = [] := by rw [len_tl]; exact List.drop_length
      rw [e] at hg
      have e2 : gapL x.length last [] = [] := rfl
      rw [e2, List.append_nil, gap_none (tl x) 0 0] at hg
      refine ⟨_, rfl, q H1 p sm np ?_⟩
      unfold gapsV
      rw [← hg]
      exact h1
/-! _law_idle -/
abbrev sLI : Stmt := topS 40
theorem scLI : FnScope ["_law_row_here", "_law_most", "_law_here", "_law_sign"] ["_law_row_here"] (defScope sLI) := ⟨rfl, rfl, rfl, by decide +kernel, rfl, by decide +kernel, by decide +kernel⟩
def spLI : Sp := fun vs H Q _ => ∃ x : Str, vs = [.str x] ∧ Q (.int (idleL 0 0 (tl x))) H
theorem ok_li {f : Addr} {fd : FuncData} {k : Nat} (F : Fun K "_law_idle" "_law_idle" sLI f fd) (mm : mg "max" = none) : FnOk P w K mg base CX0 (k + 1) f fd ["_law_row_here"] spLI := by
  refine F.ok scLI (fun vs H Q E h => ?_) (fun cdv A outer s H vs Q E hr h => ?_)
  · obtain ⟨x, rfl, _⟩ := h
    rfl
  · obtain ⟨x, rfl, q⟩ := h
    refine ⟨_, pss_cons (ps_set (i := 1) scLI.nd rfl (.inl rfl) pe_int) (pss_cons (ps_set (i := 2) scLI.nd rfl (.inl rfl) pe_int)
      (pss_cons (ps_for PassesOwn.never rfl (pi_str (pv 0)) (pg_name (i := 3) scLI.nd rfl (.inl rfl))
        (pss_cons (ps_set (i := 2) scLI.nd rfl (.inl rfl) (pe_ifExp (pt_cmpR op_eq (pv 3) pe_str (nomark _)) (pe_op op_add (pv 2) pe_int) pe_int))
        (pss_one (ps_set (i := 1) scLI.nd rfl (.inl rfl) (pe_callB (call_max2 rfl) (by rfl) mm (by decide +kernel) (pa_cons (pv 1) (pa_cons (pv 2) pa_nil)))))))
      (pss_one (ps_ret (pv 1))))), ?_⟩
    refine ⟨.str x, rfl, x, rfl, for_str (x := x) (fun i σ H1 => H1 = H ∧ ∃ (m h : Int) (y : Option V), σ = [some (.str x), some (.int m), some (.int h), y] ∧ idleL m h ((tl x).drop i) = idleL 0 0 (tl x)) ⟨rfl, 0, 0, none, rfl, rfl⟩ ?_ ?_⟩
    · rintro i c σ H1 hc ⟨rfl, m, h, y, rfl, e⟩
      have hc' : (tl x)[i]? = some c := by rw [← hc]; exact Array.getElem?_toList
      have hil : i < (tl x).length := (List.getElem?_eq_some_iff.mp hc').1
      have hdr : (tl x).drop i = (tl x)[i] :: (tl x).drop (i + 1) := List.drop_eq_getElem_cons hil
      have hci : (tl x)[i] = c := by
        rw [List.getElem?_eq_getElem hil] at hc'
        exact Option.some.inj hc'
      rw [hdr, hci, idleL_cons] at e
      have mx : ∀ a b : Int, (if b > a then b else a) = max a b := fun a b => by
        split <;> omega
      refine ⟨_, rfl, rfl, _, rfl, ?_⟩
      by_cases h8 : c = 48
      · rw [decide_eq_true ((one_sign c).1.mpr h8)]
        rw [if_pos h8] at e
        refine iteT ⟨_, rfl, h, 1, rfl, rfl, _, rfl, _, rfl, m, h + 1, rfl, rfl, max m (h + 1), h + 1, some (.str ⟨#[c]⟩), ?_, e⟩
        rw [← mx]
        rfl
      · rw [decide_eq_false (fun z => h8 ((one_sign c).1.mp z))]
        rw [if_neg h8] at e
        refine iteF ⟨_, rfl, _, rfl, m, 0, rfl, rfl, max m 0, 0, some (.str ⟨#[c]⟩), ?_, e⟩
        rw [← mx]
        rfl
    · rintro σ H1 ⟨rfl, m, h, y, rfl, e⟩
      have e0 : (tl x).drop x.cps.size = [] := List.drop_of_length_le (by simp)
      rw [e0] at e
      have e1 : m = idleL 0 0 (tl x) := e
      rw [← e1] at q
      exact ⟨_, rfl, q⟩
end
end K01

set_option Elab.async false
set_option linter.all false
set_option maxRecDepth 100000
set_option maxHeartbeats 4000000
namespace K01
open PySem PySem.Spec PyProof.Rows L2 Pw TL
section
variable {P : Program} {w : World} {K : PySem.W.Frag} {mg : Str → Option Value} {base : Heap}
/-- built-in names that the law reads -/
structure BN (mg : Str → Option Value) : Prop where
  isi : mg "isinstance" = none
  int : mg "int" = none
  bool : mg "bool" = none
  str : mg "str" = none
  tup : mg "tuple" = none
  lst : mg "list" = none
  len : mg "len" = none
  all : mg "all" = none
  rng : mg "range" = none
  max : mg "max" = none
  min : mg "min" = none
  abs : mg "abs" = none
  enu : mg "enumerate" = none
/-! _law_num -/
abbrev sNU : Stmt := topS 29
theorem scNU : FnScope ["_law_found"] ["_law_found"] (defScope sNU) := ⟨rfl, rfl, rfl, by decide +kernel, rfl, by decide +kernel, by decide +kernel⟩
def spNU : Sp := fun vs H Q _ => ∃ i : Int, vs = [.int i] ∧ Q (.bl true) H
theorem ok_nu {f : Addr} {fd : FuncData} {k : Nat} (F : Fun K "_law_num" "_law_num" sNU f fd) (B : BN mg) : FnOk P w K mg base CX0 (k + 1) f fd ["_law_found"] spNU := by
  refine F.ok scNU (fun vs H Q E h => ?_) (fun cdv A outer s H vs Q E hr h => ?_)
  · obtain ⟨i, rfl, _⟩ := h
    rfl
  · obtain ⟨i, rfl, q⟩ := h
    refine ⟨_, pss_one (ps_ret (pe_and (pe_callB call_isi (by rfl) B.isi (by decide +kernel) (pa_cons (pv 0) (pa_cons (pe_bltn (v := .ty "int") (by rfl) B.int (by decide +kernel) rfl) pa_nil)))
      (pe_one (pe_not (pe_callB call_isi (by rfl) B.isi (by decide +kernel) (pa_cons (pv 0) (pa_cons (pe_bltn (v := .ty "bool") (by rfl) B.bool (by decide +kernel) rfl) pa_nil))))))), ?_⟩
    refine ⟨.int i, rfl, .int i, .ty "int", .type "int", .type "int", true, rfl, .ty _, .base (.int i), kit_ty (by decide +kernel), true, rfl, iteT ?_⟩
    exact ⟨.int i, rfl, .int i, .ty "bool", .type "int", .type "bool", false, rfl, .ty _, .base (.int i), kit_ty (by decide +kernel), false, rfl, q⟩
/-! _law_like -/
abbrev sLK : Stmt := topS 30
theorem scLK : FnScope ["_law_found", "_law_due", "_law_k"] ["_law_found", "_law_due"] (defScope sLK) := ⟨rfl, rfl, rfl, by decide +kernel, rfl, by decide +kernel, by decide +kernel⟩
/-- two values that are alike, at most n deep -/
inductive Lk (K : PySem.W.Frag) (H : Hp) : Nat → V → V → Prop
  | non {n : Nat} : Lk K H n .non .non
  | bl {n : Nat} (b : Bool) : Lk K H n (.bl b) (.bl b)
  | int {n : Nat} (i : Int) : Lk K H n (.int i) (.int i)
  | str {n : Nat} (x : Str) : Lk K H n (.str x) (.str x)
  | lst {n : Nat} {a b : Addr} {xs ys : List V} (ha : SqL K H a xs) (hb : SqL K H b ys) (hl : xs.length = ys.length) (hz : xs.length ≤ 1001) (hi : ∀ (i : Nat) (x y : V), xs[i]? = some x → ys[i]? = some y → Lk K H n x y) : Lk K H (n + 1) (.ref a) (.ref b)
  | tup {n : Nat} {a b : Addr} {xs ys : List V} (ha : SqT K H a xs) (hb : SqT K H b ys) (hl : xs.length = ys.length) (hz : xs.length ≤ 1001) (hi : ∀ (i : Nat) (x y : V), xs[i]? = some x → ys[i]? = some y → Lk K H n x y) : Lk K H (n + 1) (.ref a) (.ref b)
/-- both are alike -/
def spLK (K : PySem.W.Frag) : Nat → Sp
  | 0 => fun _ _ _ _ => False
  | n + 1 => fun vs H Q _ => ∃ (v u : V), vs = [v, u] ∧ Lk K H n v u ∧ ∀ H', Same H H' → Q (.bl true) H'
theorem ty_list {H : Hp} {a : Addr} {xs : List V} (h : SqL K H a xs) : TyX K H (.ref a) (.type "list") := by
  rcases h with (h | ⟨o, h⟩) | ⟨o, its, n, h1, h2, _⟩
  · exact .base (.lst h)
  · exact .base (.frz h)
  · exact .kList h1 h2
theorem ty_tup {H : Hp} {a : Addr} {xs : List V} (h : SqT K H a xs) : TyX K H (.ref a) (.type "tuple") := by
  rcases h with (h | ⟨o, h⟩) | ⟨o, its, n, h1, h2, _⟩
  · exact .base (.tup h)
  · exact .fTuple h
  · exact .kTuple h1 h2
theorem Same.tup {H H' : Hp} {a : Addr} {xs : List V} (s : Same H H') (h : SqT K H a xs) : SqT K H' a xs := by
  rcases h with (h | ⟨o, h⟩) | h
  · exact .inl (.inl (s _ _ h))
  · exact .inl (.inr ⟨o, s _ _ h⟩)
  · exact .inr h
theorem Lk.same {H H' : Hp} (s : Same H H') : ∀ {n : Nat} {v u : V}, Lk K H n v u → Lk K H' n v u := by
  intro n v u h
  induction h with
  | non => exact .non
  | bl b => exact .bl b
  | int i => exact .int i
  | str x => exact .str x
  | lst ha hb hl hz _ ih => exact .lst (s.seq ha) (s.seq hb) hl hz ih
  | tup ha hb hl hz _ ih => exact .tup (Same.tup s ha) (Same.tup s hb) hl hz ih
theorem all_true (n : Nat) : (List.replicate n true).all id = true := by
  induction n with
  | zero => rfl
  | succ n ih => rw [List.replicate_succ, List.all_cons, ih]; rfl
theorem ok_lk {f fN : Addr} {fd fdN : FuncData} (F : Fun K "_law_like" "_law_like" sLK f fd) (B : BN mg) (fm : mg "_law_like" = some (.ref f)) (fk : PySem.W.keepIn K (.ref f) = true) (fb : Binds K fd ["_law_found", "_law_due"] [])
    (GN : FnOk P w K mg base CX0 1 fN fdN ["_law_found"] spNU) (nm : mg "_law_num" = some (.ref fN)) (nk : PySem.W.keepIn K (.ref fN) = true) (nb : Binds K fdN ["_law_found"] []) : ∀ n, FnOk P w K mg base CX0 (n + 1) f fd ["_law_found", "_law_due"] (spLK K n)
  | 0 => ⟨fun _ _ _ _ h => h.elim, fun _ _ _ _ _ _ _ _ _ _ _ _ _ h => h.elim⟩
  | n + 1 => by
    have G := ok_lk F B fm fk fb GN nm nk nb n
    refine F.ok scLK (fun vs H Q E h => ?_) (fun cdv A outer s H vs Q E hr h => ?_)
    · obtain ⟨v, u, rfl, _⟩ := h
      rfl
    · obtain ⟨v, u, rfl, hv, q⟩ := h
      have hr1 : Room 1 _ := hr.mono (Nat.le_add_left _ _)
      refine ⟨_, pss_cons (ps_if (pt_cmpR op_isN (pv 1) pe_non (nomark _)) (pss_one (ps_ret (pe_cmpR op_isN (pv 0) pe_non (nomark _)))) pss_nil)
        (pss_cons (ps_if (pt_val (pe_callB call_isi (by rfl) B.isi (by decide +kernel) (pa_cons (pv 1) (pa_cons (pe_bltn (v := .ty "bool") (by rfl) B.bool (by decide +kernel) rfl) pa_nil))))
          (pss_one (ps_ret (pe_and (pe_callB call_isi (by rfl) B.isi (by decide +kernel) (pa_cons (pv 0) (pa_cons (pe_bltn (v := .ty "bool") (by rfl) B.bool (by decide +kernel) rfl) pa_nil))) (pe_one (pe_cmpR op_eq (pv 0) (pv 1) (nomark _)))))) pss_nil)
        (pss_cons (ps_if (pt_val (pe_callB call_isi (by rfl) B.isi (by decide +kernel) (pa_cons (pv 1) (pa_cons (pe_bltn (v := .ty "int") (by rfl) B.int (by decide +kernel) rfl) pa_nil))))
          (pss_one (ps_ret (pe_and (pe_call GN hr1 rfl nm nk nb .nil pass0 (pa_cons (pv 0) pa_nil)) (pe_one (pe_cmpR op_eq (pv 0) (pv 1) (nomark _)))))) pss_nil)
        (pss_cons (ps_if (pt_val (pe_callB call_isi (by rfl) B.isi (by decide +kernel) (pa_cons (pv 1) (pa_cons (pe_bltn (v := .ty "str") (by rfl) B.str (by decide +kernel) rfl) pa_nil))))
          (pss_one (ps_ret (pe_and (pe_callB call_isi (by rfl) B.isi (by decide +kernel) (pa_cons (pv 0) (pa_cons (pe_bltn (v := .ty "str") (by rfl) B.str (by decide +kernel) rfl) pa_nil))) (pe_one (pe_cmpR op_eq (pv 0) (pv 1) (nomark _)))))) pss_nil)
        (pss_cons (ps_if (PW.pt (pw_or (pt_cmpR op_ne (pe_callB call_isi (by rfl) B.isi (by decide +kernel) (pa_cons (pv 1) (pa_cons (pe_bltn (v := .ty "tuple") (by rfl) B.tup (by decide +kernel) rfl) pa_nil))) (pe_callB call_isi (by rfl) B.isi (by decide +kernel) (pa_cons (pv 0) (pa_cons (pe_bltn (v := .ty "tuple") (by rfl) B.tup (by decide +kernel) rfl) pa_nil))) (nomark _))
            (pw_or1 (pt_cmpR op_ne (pe_callB call_isi (by rfl) B.isi (by decide +kernel) (pa_cons (pv 1) (pa_cons (pe_bltn (v := .ty "list") (by rfl) B.lst (by decide +kernel) rfl) pa_nil))) (pe_callB call_isi (by rfl) B.isi (by decide +kernel) (pa_cons (pv 0) (pa_cons (pe_bltn (v := .ty "list") (by rfl) B.lst (by decide +kernel) rfl) pa_nil))) (nomark _)))))
          (pss_one (ps_ret pe_bl)) pss_nil)
        (pss_cons (ps_if (pt_cmpR op_ne (pe_callB call_len_seq (by rfl) B.len PySem.boot_len (pa_cons (pv 0) pa_nil)) (pe_callB call_len_seq (by rfl) B.len PySem.boot_len (pa_cons (pv 1) pa_nil)) (nomark _)) (pss_one (ps_ret pe_bl)) pss_nil)
        (pss_one (ps_ret (pe_callB (cr_all rfl) (by rfl) B.all (by decide +kernel) (pa_cons (pe_lc (own := [("_law_k", 2)]) (g := gName 2) (tt := tYes) rfl scLK.nd (pi_range1 rfl B.rng (pa_cons (pe_callB call_len_seq (by rfl) B.len PySem.boot_len (pa_cons (pv 1) pa_nil)) pa_nil))
          (blkOk_by (N := ["_law_found", "_law_due", "_law_k"]) (sc := defScope sLK) (by decide +kernel)) (fun _ _ _ _ _ => pg_name (i := 2) scLK.nd rfl (Or.inl rfl)) (fun _ _ _ _ _ => pts_nil)
          (fun _ _ _ _ _ => pe_call G hr rfl fm fk fb .nil pass0 (pa_cons (pe_ix (r := rIx K) ix_seq (pv 0) (pv 2) (fun _ _ => rfl)) (pa_cons (pe_ix (r := rIx K) ix_seq (pv 1) (pv 2) (fun _ _ => rfl)) pa_nil)))) pa_nil))))))))), ?_⟩
      have q0 := q H (Same.refl H)
      cases hv with
      | non =>
        exact ⟨.non, rfl, rfl, true, rfl, iteT ⟨.non, rfl, rfl, q0⟩⟩
      | bl b =>
        refine ⟨.bl b, rfl, rfl, _, rfl, iteF ⟨.bl b, rfl, .bl b, .ty "bool", .type "bool", .type "bool", true, rfl, .ty _, .base (.bl b), kit_ty (by decide +kernel), _, rfl, iteT ?_⟩⟩
        refine ⟨.bl b, rfl, .bl b, .ty "bool", .type "bool", .type "bool", true, rfl, .ty _, .base (.bl b), kit_ty (by decide +kernel), true, rfl, iteT ⟨_, rfl, _, rfl, rfl, ?_⟩⟩
        rw [decide_eq_true rfl]
        exact q0
      | int i =>
        refine ⟨.int i, rfl, rfl, _, rfl, iteF ⟨.int i, rfl, .int i, .ty "bool", .type "int", .type "bool", false, rfl, .ty _, .base (.int i), kit_ty (by decide +kernel), _, rfl, iteF ?_⟩⟩
        refine ⟨.int i, rfl, .int i, .ty "int", .type "int", .type "int", true, rfl, .ty _, .base (.int i), kit_ty (by decide +kernel), _, rfl, iteT ?_⟩
        refine ⟨.int i, rfl, i, rfl, true, rfl, iteT ⟨_, rfl, _, rfl, rfl, ?_⟩⟩
        rw [decide_eq_true rfl]
        exact q0
      | str x =>
        refine ⟨.str x, rfl, rfl, _, rfl, iteF ⟨.str x, rfl, .str x, .ty "bool", .type "str", .type "bool", false, rfl, .ty _, .base (.str x), kit_ty (by decide +kernel), _, rfl, iteF ?_⟩⟩
        refine ⟨.str x, rfl, .str x, .ty "int", .type "str", .type "int", false, rfl, .ty _, .base (.str x), kit_ty (by decide +kernel), _, rfl, iteF ?_⟩
        refine ⟨.str x, rfl, .str x, .ty "str", .type "str", .type "str", true, rfl, .ty _, .base (.str x), kit_ty (by decide +kernel), _, rfl, iteT ?_⟩
        refine ⟨.str x, rfl, .str x, .ty "str", .type "str", .type "str", true, rfl, .ty _, .base (.str x), kit_ty (by decide +kernel), true, rfl, iteT ⟨_, rfl, _, rfl, rfl, ?_⟩⟩
        rw [decide_eq_true rfl]
        exact q0
      | @lst m a b xs ys ha hb hl hz hi =>
        refine ⟨.ref b, rfl, rfl, _, rfl, iteF ⟨.ref b, rfl, .ref b, .ty "bool", .type "list", .type "bool", false, rfl, .ty _, ty_list hb, kit_ty (by decide +kernel), _, rfl, iteF ?_⟩⟩
        refine ⟨.ref b, rfl, .ref b, .ty "int", .type "list", .type "int", false, rfl, .ty _, ty_list hb, kit_ty (by decide +kernel), _, rfl, iteF ?_⟩
        refine ⟨.ref b, rfl, .ref b, .ty "str", .type "list", .type "str", false, rfl, .ty _, ty_list hb, kit_ty (by decide +kernel), _, rfl, iteF ?_⟩
        refine ⟨.ref b, rfl, .ref b, .ty "tuple", .type "list", .type "tuple", false, rfl, .ty _, ty_list hb, kit_ty (by decide +kernel), .ref a, rfl, .ref a, .ty "tuple", .type "list", .type "tuple", false, rfl, .ty _, ty_list ha, kit_ty (by decide +kernel), rfl, _, rfl, iteF ?_⟩
        refine ⟨.ref b, rfl, .ref b, .ty "list", .type "list", .type "list", true, rfl, .ty _, ty_list hb, kit_ty (by decide +kernel), .ref a, rfl, .ref a, .ty "list", .type "list", .type "list", true, rfl, .ty _, ty_list ha, kit_ty (by decide +kernel), rfl, _, rfl, iteF ?_⟩
        refine ⟨.ref a, rfl, a, xs, rfl, .inl ha, .ref b, rfl, b, ys, rfl, .inl hb, rfl, _, rfl, ?_⟩
        rw [hl, decide_eq_true rfl]
        refine iteF ⟨.ref b, rfl, b, ys, rfl, .inl hb, (ys.length : Int), rfl, by omega, by omega, fun D nD => ?_⟩
        refine lc_range (lo := 0) (n := ys.length) (fun i H2 => Same H H2 ∧ H2 D = some (.lst ((List.replicate i true).map V.bl))) ⟨same_new nD, upd_same⟩ (fun i H2 hlt h => ?_) (fun H2 h => ?_)
        · obtain ⟨s2, h2⟩ := h
          have hx : xs[i]? = some (xs[i]'(by omega)) := List.getElem?_eq_getElem (by omega)
          have hy : ys[i]? = some ys[i] := List.getElem?_eq_getElem hlt
          have e0 : (0 + (i : Int)) = ((i : Nat) : Int) := Int.zero_add _
          refine ⟨rfl, .ref a, rfl, .int (0 + (i : Int)), rfl, .inl ⟨a, xs, 0 + (i : Int), _, rfl, rfl, s2.seq ha, at_of e0 hx, .ref b, rfl, .int (0 + (i : Int)), rfl, .inl ⟨b, ys, 0 + (i : Int), _, rfl, rfl, s2.seq hb, at_of e0 hy, _, _, rfl, (hi i _ _ hx hy).same s2, fun H3 s3 => ⟨_, s3 _ _ h2, ?_, same_put (s2.trans s3) nD, ?_⟩⟩⟩⟩
          · rw [List.length_map, List.length_replicate]
            exact Nat.lt_of_le_of_lt (by omega : i ≤ 1001) (by decide)
          · rw [upd_same, List.replicate_succ', List.map_append]
            rfl
        · obtain ⟨s2, h2⟩ := h
          refine ⟨D, List.replicate ys.length true, rfl, SqL.of h2, ?_⟩
          rw [all_true]
          exact q H2 s2
      | @tup m a b xs ys ha hb hl hz hi =>
        refine ⟨.ref b, rfl, rfl, _, rfl, iteF ⟨.ref b, rfl, .ref b, .ty "bool", .type "tuple", .type "bool", false, rfl, .ty _, ty_tup hb, kit_ty (by decide +kernel), _, rfl, iteF ?_⟩⟩
        refine ⟨.ref b, rfl, .ref b, .ty "int", .type "tuple", .type "int", false, rfl, .ty _, ty_tup hb, kit_ty (by decide +kernel), _, rfl, iteF ?_⟩
        refine ⟨.ref b, rfl, .ref b, .ty "str", .type "tuple", .type "str", false, rfl, .ty _, ty_tup hb, kit_ty (by decide +kernel), _, rfl, iteF ?_⟩
        refine ⟨.ref b, rfl, .ref b, .ty "tuple", .type "tuple", .type "tuple", true, rfl, .ty _, ty_tup hb, kit_ty (by decide +kernel), .ref a, rfl, .ref a, .ty "tuple", .type "tuple", .type "tuple", true, rfl, .ty _, ty_tup ha, kit_ty (by decide +kernel), rfl, _, rfl, iteF ?_⟩
        refine ⟨.ref b, rfl, .ref b, .ty "list", .type "tuple", .type "list", false, rfl, .ty _, ty_tup hb, kit_ty (by decide +kernel), .ref a, rfl, .ref a, .ty "list", .type "tuple", .type "list", false, rfl, .ty _, ty_tup ha, kit_ty (by decide +kernel), rfl, _, rfl, iteF ?_⟩
        refine ⟨.ref a, rfl, a, xs, rfl, .inr ha, .ref b, rfl, b, ys, rfl, .inr hb, rfl, _, rfl, ?_⟩
        rw [hl, decide_eq_true rfl]
        refine iteF ⟨.ref b, rfl, b, ys, rfl, .inr hb, (ys.length : Int), rfl, by omega, by omega, fun D nD => ?_⟩
        refine lc_range (lo := 0) (n := ys.length) (fun i H2 => Same H H2 ∧ H2 D = some (.lst ((List.replicate i true).map V.bl))) ⟨same_new nD, upd_same⟩ (fun i H2 hlt h => ?_) (fun H2 h => ?_)
        · obtain ⟨s2, h2⟩ := h
          have hx : xs[i]? = some (xs[i]'(by omega)) := List.getElem?_eq_getElem (by omega)
          have hy : ys[i]? = some ys[i] := List.getElem?_eq_getElem hlt
          have e0 : (0 + (i : Int)) = ((i : Nat) : Int) := Int.zero_add _
          refine ⟨rfl, .ref a, rfl, .int (0 + (i : Int)), rfl, .inr (.inl ⟨a, xs, 0 + (i : Int), _, rfl, rfl, Same.tup s2 ha, at_of e0 hx, .ref b, rfl, .int (0 + (i : Int)), rfl, .inr (.inl ⟨b, ys, 0 + (i : Int), _, rfl, rfl, Same.tup s2 hb, at_of e0 hy, _, _, rfl, (hi i _ _ hx hy).same s2, fun H3 s3 => ⟨_, s3 _ _ h2, ?_, same_put (s2.trans s3) nD, ?_⟩⟩)⟩)⟩
          · rw [List.length_map, List.length_replicate]
            exact Nat.lt_of_le_of_lt (by omega : i ≤ 1001) (by decide)
          · rw [upd_same, List.replicate_succ', List.map_append]
            rfl
        · obtain ⟨s2, h2⟩ := h
          refine ⟨D, List.replicate ys.length true, rfl, SqL.of h2, ?_⟩
          rw [all_true]
          exact q H2 s2
end
end K01

set_option Elab.async false
set_option linter.all false
set_option maxRecDepth 100000
set_option maxHeartbeats 4000000
namespace K01
open PySem PySem.Spec PyProof.Rows L2 Pw TL
section
variable {P : Program} {w : World} {K : PySem.W.Frag} {mg : Str → Option Value} {base : Heap}
/-! _law_swing -/
abbrev sLS : Stmt := topS 38
theorem scLS : FnScope ["_law_row_here", "_law_sums_here", "_law_most", "_law_early", "_law_late"] ["_law_row_here"] (defScope sLS) := ⟨rfl, rfl, rfl, by decide +kernel, rfl, by decide +kernel, by decide +kernel⟩
def spLS : Sp := fun vs H Q _ => ∃ x : Str, vs = [.str x] ∧ (tl x).length ≤ 1000 ∧ Pw.Pure (tl x) ∧ ∀ H', Same H H' → Q (.int ((hiS (tl x)).2.1 - (hiS (tl x)).2.2)) H'
def absI (i : Int) : Int := if i < 0 then -i else i
theorem ok_ls {f fS : Addr} {fd fdS : FuncData} (F : Fun K "_law_swing" "_law_swing" sLS f fd) (B : BN mg) (G : FnOk P w K mg base CX0 1 fS fdS ["_law_row_here"] spSU) (gm : mg "_law_sums" = some (.ref fS)) (gk : PySem.W.keepIn K (.ref fS) = true) (gb : Binds K fdS ["_law_row_here"] []) :
    FnOk P w K mg base CX0 2 f fd ["_law_row_here"] spLS := by
  refine F.ok scLS (fun vs H Q E h => ?_) (fun cdv A outer s H vs Q E hr h => ?_)
  · obtain ⟨x, rfl, _⟩ := h
    rfl
  · obtain ⟨x, rfl, hl, hp, q⟩ := h
    refine ⟨_, pss_cons (ps_set (i := 1) scLS.nd rfl (.inl rfl) (pe_call G hr rfl gm gk gb .nil pass0 (pa_cons (pv 0) pa_nil)))
      (pss_cons (ps_set (i := 2) scLS.nd rfl (.inl rfl) pe_int)
      (pss_cons (ps_for PassesOwn.never rfl (pi_list (pv 1)) (pg_name (i := 3) scLS.nd rfl (.inr rfl))
        (pss_one (ps_set (i := 2) scLS.nd rfl (.inl rfl) (pe_callB (cr_max rfl) (by rfl) B.max (by decide +kernel) (pa_cons (pe_op op_cat (pe_lst (pa_cons (pv 2) pa_nil))
          (pe_lc (own := [("_law_late", 4)]) (g := gName 4) (tt := tYes) rfl scLS.nd (pi_list (pv 1)) (blkOk_by (N := ["_law_row_here", "_law_sums_here", "_law_most", "_law_early", "_law_late"]) (sc := defScope sLS) (by decide +kernel))
            (fun _ _ _ _ _ => pg_name (i := 4) scLS.nd rfl (Or.inl rfl)) (fun _ _ _ _ _ => pts_nil) (fun _ _ _ _ _ => pe_callB call_abs (by rfl) B.abs (by decide +kernel) (pa_cons (pe_op op_sub (pv 4) (pv 3)) pa_nil)))) pa_nil)))))
      (pss_one (ps_ret (pv 2))))), ?_⟩
    refine ⟨_, rfl, x, rfl, hl, hp, fun H1 p s1 np hp1 => ?_⟩
    have hS : SqL K H1 p ((sums (tl x)).map V.int) := SqL.of hp1
    refine ⟨_, rfl, p, rfl, ⟨_, hS⟩, for_list (K := K) (a := p) (xs := (sums (tl x)).map V.int) (fun i σ H2 => ∃ (m : Int) (y : Option V), σ = [some (.str x), some (.ref p), some (.int m), y, none] ∧ Same H1 H2 ∧ 0 ≤ m ∧
        (∀ (j : Nat) (a : Int), j < i → (sums (tl x))[j]? = some a → ∀ b ∈ sums (tl x), absI (b - a) ≤ m) ∧ (m = 0 ∨ ∃ a ∈ sums (tl x), ∃ b ∈ sums (tl x), m = absI (b - a)))
      ⟨0, none, rfl, Same.refl H1, Int.le_refl _, fun j a h => absurd h (Nat.not_lt_zero _), .inl rfl⟩ (fun i σ H2 _ h => ?_) (fun i v σ H2 hv h => ?_) (fun σ H2 h => ?_)⟩
    · obtain ⟨m, y, _, s2, _⟩ := h
      exact s2.seq hS
    · obtain ⟨m, y, rfl, s2, h0, hb, ha⟩ := h
      obtain ⟨e, he, rfl⟩ : ∃ e, (sums (tl x))[i]? = some e ∧ v = V.int e := by
        rw [List.getElem?_map] at hv
        cases hz : (sums (tl x))[i]? with
        | none =>
          rw [hz] at hv
          cases hv
        | some z =>
          rw [hz] at hv
          exact ⟨z, rfl, (Option.some.inj hv).symm⟩
      refine ⟨_, rfl, by show 1 ≤ sizeLine; decide, fun r nr => ?_⟩
      have s3 : Same H1 (upd H2 r (.lst [.int m])) := s2.trans (same_new nr)
      refine ⟨_, rfl, p, rfl, ⟨_, s3.seq hS⟩, fun D nD => ?_⟩
      have hrD : r ≠ D := ne_of_none upd_same nD
      have nD1 : H1 D = none := s3.free nD
      refine lc_list (K := K) (a := p) (xs := (sums (tl x)).map V.int) (fun j H3 => Same H1 H3 ∧ H3 r = some (.lst [.int m]) ∧ H3 D = some (.lst ((((sums (tl x)).take j).map fun b => absI (b - e)).map V.int)))
        ⟨same_put s3 nD1, by rw [upd_ne hrD, upd_same], upd_same⟩ (fun j H3 _ h => h.1.seq hS) (fun j v H3 hv h => ?_) (fun H3 h => ?_)
      · obtain ⟨s4, h4, h5⟩ := h
        obtain ⟨b, hb2, rfl⟩ : ∃ b, (sums (tl x))[j]? = some b ∧ v = V.int b := by
          rw [List.getElem?_map] at hv
          cases hz : (sums (tl x))[j]? with
          | none =>
            rw [hz] at hv
            cases hv
          | some z =>
            rw [hz] at hv
            exact ⟨z, rfl, (Option.some.inj hv).symm⟩
        have hjl : j < (sums (tl x)).length := (List.getElem?_eq_some_iff.mp hb2).1
        have hsl := sums_len (tl x)
        refine ⟨rfl, _, rfl, _, rfl, b, e, rfl, rfl, _, rfl, _, h5, ?_, same_put s4 nD1, ?_, ?_⟩
        · rw [List.length_map, List.length_map, List.length_take]
          exact Nat.lt_of_le_of_lt (by omega : min j (sums (tl x)).length ≤ 1001) (by decide)
        · rw [upd_ne hrD]
          exact h4
        · rw [upd_same, List.take_add_one, hb2, List.map_append, List.map_append]
          rfl
      · obtain ⟨s4, h4, h5⟩ := h
        rw [List.length_map, List.take_length] at h5
        have hsl := sums_len (tl x)
        refine ⟨r, D, _, _, rfl, rfl, h4, h5, ?_, fun M nM => ?_⟩
        · rw [List.length_map, List.length_map, hsl]
          exact Nat.le_trans (by show 1 + ((tl x).length + 1) ≤ 1002; omega) (by decide : 1002 ≤ sizeLine)
        · refine ⟨M, m :: ((sums (tl x)).map fun b => absI (b - e)), rfl, SqL.of upd_same, Nat.succ_pos _, fun m2 hm2 hle => ⟨m2, some (.int e), rfl, s4.trans (same_new nM), ?_, fun j a hj haj b hb2 => ?_, ?_⟩⟩
          · exact Int.le_trans h0 (hle m List.mem_cons_self)
          · by_cases hji : j = i
            · subst hji
              rw [he] at haj
              obtain rfl : e = a := Option.some.inj haj
              exact hle _ (List.mem_cons_of_mem _ (List.mem_map.mpr ⟨b, hb2, rfl⟩))
            · exact Int.le_trans (hb j a (by omega) haj b hb2) (hle m List.mem_cons_self)
          · rcases List.mem_cons.mp hm2 with z | z
            · rw [z]
              exact ha
            · obtain ⟨b, hb2, z2⟩ := List.mem_map.mp z
              exact .inr ⟨e, List.mem_of_getElem? he, b, hb2, z2.symm⟩
    · obtain ⟨m, y, rfl, s2, h0, hb, ha⟩ := h
      rw [List.length_map] at hb
      have e : m = (hiS (tl x)).2.1 - (hiS (tl x)).2.2 := by
        refine swing_is (fun a ha b hb2 => ?_) ?_
        · obtain ⟨j, hj, e⟩ := List.mem_iff_getElem.mp ha
          have := hb j a hj (by rw [List.getElem?_eq_getElem hj, e]) b hb2
          unfold absI at this
          split at this <;> omega
        · rcases ha with z | ⟨a, ha, b, hb2, z⟩
          · have h1 := (hiS_top (tl x)).1.1
            exact ⟨_, h1, _, h1, .inl (by omega)⟩
          · refine ⟨a, ha, b, hb2, ?_⟩
            unfold absI at z
            split at z
            · exact .inr (by omega)
            · exact .inl z
      have := q H2 (s1.trans s2)
      rw [← e] at this
      exact ⟨_, rfl, this⟩
/-! _law_odd_row -/
abbrev sOR : Stmt := topS 36
theorem scOR : FnScope ["_law_draw", "_law_many", "_law_row_here", "_law_at"] ["_law_draw", "_law_many"] (defScope sOR) := ⟨rfl, rfl, rfl, by decide +kernel, rfl, by decide +kernel, by decide +kernel⟩
def spOR : Sp := fun vs H Q _ => ∃ (p q : Addr) (ns : List Int) (n : Nat), vs = [.ref p, .int (n : Nat)] ∧ n ≤ 400 ∧ Dr p q ns H ∧ ∀ (x : Str) H', (tl x).length ≤ 1000 → SameX p H H' → Dr p q ns H' → Q (.str x) H'
theorem ok_or {f fW : Addr} {fd fdW : FuncData} (F : Fun K "_law_odd_row" "_law_odd_row" sOR f fd) (B : BN mg) (R : PUOk P w K mg base) (GW : FnOk P w K mg base CX0 2 fW fdW ["_law_draw", "_law_many"] spRO) (wm : mg "_law_row" = some (.ref fW)) (wk : PySem.W.keepIn K (.ref fW) = true) (wb : Binds K fdW ["_law_draw", "_law_many"] []) :
    FnOk P w K mg base CX0 3 f fd ["_law_draw", "_law_many"] spOR := by
  obtain ⟨fR, fdR, G, gm, gk, gb⟩ := R.ex
  refine F.ok scOR (fun vs H Q E h => ?_) (fun cdv A outer s H vs Q E hr h => ?_)
  · obtain ⟨p, q, ns, n, rfl, _⟩ := h
    rfl
  · obtain ⟨p, q, ns, n, rfl, hn, hD, k⟩ := h
    have hr1 : Room 1 _ := hr.mono (by decide)
    refine ⟨_, pss_cons (ps_set (i := 2) scOR.nd rfl (.inl rfl) (pe_call GW hr rfl wm wk wb .nil pass0 (pa_cons (pv 0) (pa_cons (pe_call G hr1 rfl gm gk gb .nil pass0 (pa_cons (pv 0) (pa_cons (pe_op op_add (pv 1) pe_int) pa_nil))) pa_nil))))
      (pss_cons (ps_if (pt_cmpR op_gt (pe_call G hr1 rfl gm gk gb .nil pass0 (pa_cons (pv 0) (pa_cons pe_int pa_nil))) pe_int (nomark _)) (pss_one (ps_ret (pv 2))) pss_nil)
      (pss_cons (ps_set (i := 3) scOR.nd rfl (.inl rfl) (pe_call G hr1 rfl gm gk gb .nil pass0 (pa_cons (pv 0) (pa_cons (pe_op op_add (pe_callB call_len_str (by rfl) B.len PySem.boot_len (pa_cons (pv 2) pa_nil)) pe_int) pa_nil))))
      (pss_one (ps_ret (pe_op op_add_str (pe_op op_add_str (pe_slice sl_str (pv 2) po_none (po_some (pv 3))) (pe_ix ix_str pe_str (pe_call G hr1 rfl gm gk gb .nil pass0 (pa_cons (pv 0) (pa_cons pe_int pa_nil))) (fun _ _ => rfl)))
        (pe_slice sl_str (pv 2) (po_some (pe_op op_add (pv 3) (pe_call G hr1 rfl gm gk gb .nil pass0 (pa_cons (pv 0) (pa_cons pe_int pa_nil))))) po_none)))))), ?_⟩
    refine ⟨.ref p, rfl, .ref p, rfl, _, rfl, _, 1, rfl, rfl, p, q, ns, (n : Int) + 1, rfl, by omega, by omega, hD, fun v H1 h0 h1 sx1 hD1 => ?_⟩
    have ev : v = ((v.toNat : Nat) : Int) := by omega
    refine ⟨p, q, ns, v.toNat, ?_, by omega, hD1, fun x H2 hx hxl sx2 hD2 => ?_⟩
    · rw [← ev]
      rfl
    have hz : x.length ≤ sizeLine := by
      rw [len_tl, hxl]
      exact Nat.le_trans (by omega : v.toNat ≤ 1000) (by decide)
    refine ⟨.ref p, rfl, p, q, ns, 3, rfl, by decide, by decide, hD2, fun v2 H3 _ _ sx3 hD3 => ?_⟩
    refine ⟨v2, 0, rfl, rfl, _, rfl, ite2 (fun _ => ?_) (fun _ => ?_)⟩
    · exact ⟨_, rfl, k x H3 (by omega) ((sx1.trans sx2).trans sx3) hD3⟩
    · refine ⟨.ref p, rfl, _, rfl, x, rfl, hz, _, 1, rfl, rfl, p, q, ns, (x.length : Int) + 1, rfl, by omega, ?_, hD3, fun v3 H4 _ _ sx4 hD4 => ?_⟩
      · rw [len_tl]
        omega
      refine ⟨_, rfl, _, rfl, v3, rfl, x, rfl, hz, .ref p, rfl, p, q, ns, 8, rfl, by decide, by decide, hD4, fun v4 H5 h40 h41 sx5 hD5 => ?_⟩
      have hc : ∃ c, atI (Str.ofString "2 -a?A/\n").cps.toList v4 = some c := by
        have e8 : v4 = 0 ∨ v4 = 1 ∨ v4 = 2 ∨ v4 = 3 ∨ v4 = 4 ∨ v4 = 5 ∨ v4 = 6 ∨ v4 = 7 := by omega
        rcases e8 with rfl | rfl | rfl | rfl | rfl | rfl | rfl | rfl <;> exact ⟨_, rfl⟩
      obtain ⟨c, hc⟩ := hc
      have l1 := cutS_length x none (some v3)
      refine ⟨_, v4, c, rfl, rfl, by decide, hc, _, _, rfl, rfl, ?_, ?_⟩
      · show (cutS x none (some v3)).length + 1 ≤ sizeLine
        rw [len_tl x] at l1
        exact Nat.le_trans (by omega : _ ≤ 1002) (by decide)
      · refine ⟨_, rfl, _, rfl, .ref p, rfl, p, q, ns, 2, rfl, by decide, by decide, hD5, fun v5 H6 _ _ sx6 hD6 => ?_⟩
        have l2 := cutS_length x (some (v3 + v5)) none
        have l3 : (cutS x none (some v3) ++ (⟨#[c]⟩ : Str)).length = (cutS x none (some v3)).length + 1 := by
          rw [len_tl, tl_append, List.length_append, ← len_tl]
          rfl
        rw [len_tl x] at l1 l2
        refine ⟨v3, v5, rfl, rfl, v3 + v5, rfl, x, rfl, hz, _, _, rfl, rfl, ?_, k _ H6 ?_ (((((sx1.trans sx2).trans sx3).trans sx4).trans sx5).trans sx6) hD6⟩
        · rw [l3]
          exact Nat.le_trans (by omega : _ ≤ 2002) (by decide)
        · rw [tl_append, List.length_append, ← len_tl, ← len_tl, l3]
          omega
end
end K01

set_option Elab.async false
set_option linter.all false
set_option maxRecDepth 100000
set_option maxHeartbeats 4000000
namespace K01
open PySem PySem.Spec PyProof.Rows L2 Pw TL
section
variable {P : Program} {w : World} {K : PySem.W.Frag} {mg : Str → Option Value} {base : Heap}
open LamX
/-! _law_why -/
abbrev sWH : Stmt := topS 35
theorem scWH : FnScope ["_law_ask", "_law_told", "_law_word", "_law_e"] ["_law_ask"] (defScope sWH) := ⟨rfl, rfl, rfl, by decide +kernel, rfl, by decide +kernel, by decide +kernel⟩
/-- the classes that why names -/
structure Cls8 (K : PySem.W.Frag) (mg : Str → Option Value) (C : Addr) : Prop where
  row : mg "BadRow" = some (.ref C)
  xf : XfC K C
  no : PySem.W.findIn K (.ref C) "at" = some none
  me : PySem.W.exmOne K (.ref C) (.ref C) = some true
  str : mg "str" = none
  rest : ∃ C2 C3 C4 C5 C6 C7 C8 : Addr, mg "BadRule" = some (.ref C2) ∧ mg "BadPace" = some (.ref C3) ∧ mg "TooWide" = some (.ref C4) ∧ mg "Unlawful" = some (.ref C5) ∧ mg "BadLength" = some (.ref C6) ∧ mg "BadText" = some (.ref C7) ∧ mg "PulseError" = some (.ref C8)
/-- word = 'badrow ' + str(e.at) -/
def tsRow (C : Addr) : Addr → Value → Option Addr → TS := fun a cls d => tAsg (tOp (fun x y H Q => ∃ i j, x = .str i ∧ y = .str j ∧ i.length + j.length ≤ sizeLine ∧ Q (.str (i ++ j)) H) (tC (.str "badrow ")) (tCB (fun xs H Q => ∃ i, xs = [.int i] ∧ i.natAbs.log2 < 1920 ∧ Q (.str (toString i)) H) (tCons (tXf a cls d C "at" (tVar 3)) tNil))) (gName 2)
def tsNo : Addr → Value → Option Addr → TS := fun _ _ _ => tNever
def whyL (C C2 C3 C4 C5 C6 C7 C8 : Addr) : List (Value × (Addr → Value → Option Addr → TS)) := [(.ref C, tsRow C), (.ref C2, tsNo), (.ref C3, tsNo), (.ref C4, tsNo), (.ref C5, tsNo), (.ref C6, tsNo), (.ref C7, tsNo), (.ref C8, tsNo)]
theorem why_ok {X : Cx} {C C2 C3 C4 C5 C6 C7 C8 g : Addr} {cdg : Value} {q : Str} (T : Cls8 X.K X.mg C)
    (h2 : X.mg "BadRule" = some (.ref C2)) (h3 : X.mg "BadPace" = some (.ref C3)) (h4 : X.mg "TooWide" = some (.ref C4)) (h5 : X.mg "Unlawful" = some (.ref C5)) (h6 : X.mg "BadLength" = some (.ref C6)) (h7 : X.mg "BadText" = some (.ref C7)) (h8 : X.mg "PulseError" = some (.ref C8)) :
    GivesW X ["_law_ask", "_law_told", "_law_word", "_law_e"] "_law_why" (defScope sWH) g cdg (defBody sWH) "_law_ask" q (TTwhy X.K (whyL C C2 C3 C4 C5 C6 C7 C8)) := by
  refine why_gives (tn := "_law_told") (wn := "_law_word") (en := "_law_e") scWH rfl rfl rfl (by decide) (by decide) (by decide) (by decide) (fun s H => ?_)
  refine .cons ⟨rfl, by decide, .inl T.row⟩ (fun a oe cls d pn hz hf => pss_one (ps_set (i := 2) scWH.nd rfl (.inl rfl) (pe_op op_add_str pe_str (pe_callTy call_str_int (by rfl) T.str (by decide +kernel) (pa_cons (pe_xf T.xf T.no hz hf (pv 3)) pa_nil))))) ?_
  exact .cons ⟨rfl, by decide, .inl h2⟩ (fun _ _ _ _ _ _ _ => pss_never) (.cons ⟨rfl, by decide, .inl h3⟩ (fun _ _ _ _ _ _ _ => pss_never) (.cons ⟨rfl, by decide, .inl h4⟩ (fun _ _ _ _ _ _ _ => pss_never) (.cons ⟨rfl, by decide, .inl h5⟩ (fun _ _ _ _ _ _ _ => pss_never)
    (.cons ⟨rfl, by decide, .inl h6⟩ (fun _ _ _ _ _ _ _ => pss_never) (.cons ⟨rfl, by decide, .inl h7⟩ (fun _ _ _ _ _ _ _ => pss_never) (.cons ⟨rfl, by decide, .inl h8⟩ (fun _ _ _ _ _ _ _ => pss_never) .nil))))))
/-- what why tells of a row's question: v by its promise where it is a row, else None and the word -/
theorem why_row {C C2 C3 C4 C5 C6 C7 C8 : Addr} {x : Str} {H : Hp} {Q : VK} (me : PySem.W.exmOne K (.ref C) (.ref C) = some true) (hl : (tl x).length ≤ 1000) (Gd : V → Hp → Prop)
    (hQ : ∀ (p : Addr) (G G0 : Hp) (v : V), Same H G0 → Same G0 G → G p = some (.tup [v, .str (rowWord x)]) → H p = none → (strange (tl x) = none → Gd v G0) → (∀ i, strange (tl x) = some i → v = .non) → Q (.ref p) G)
    {tl' : XK → Hp → VK → Prop} (ht : ∀ (E : XK) (Q' : VK), (strange (tl x) = none → ∀ v G, Same H G → Gd v G → Q' v G) → rowOut C x H E → tl' E H Q') :
    TTwhy K (whyL C C2 C3 C4 C5 C6 C7 C8) tl' H Q := by
  refine ⟨fun cls dd G => cls = .ref C ∧ ∃ (d : Addr) (i : Nat), dd = some d ∧ strange (tl x) = some i ∧ Same H G ∧ G d = some (.xd [("at", .int (i : Nat))]), fun v G => strange (tl x) = none ∧ Same H G ∧ Gd v G, ?_, ?_, ?_⟩
  · rintro f cls dd G ⟨rfl, d, i, rfl, hs, sm, hd⟩
    have hi := strange_lt hs
    refine ⟨true, me, fun _ a na => ?_, fun z => nomatch z⟩
    refine ⟨.ref a, rfl, rfl, rfl, d, [("at", .int (i : Nat))], .int (i : Nat), rfl, hd, rfl, (i : Int), rfl, small_log (by omega), _, _, rfl, rfl, word_size (by omega), ?_⟩
    refine ⟨.non, rfl, _, rfl, by show 2 ≤ sizeLine; decide, fun p np => ?_⟩
    refine hQ p _ G .non sm (same_new np) ?_ (sm.free np) (fun z => ?_) (fun _ _ => rfl)
    · rw [upd_same]
      unfold rowWord
      rw [hs]
    · rw [hs] at z
      cases z
  · rintro v G ⟨hs, sm, gd⟩ p np
    refine hQ p _ G v sm (same_new np) ?_ (sm.free np) (fun _ => gd) (fun i z => ?_)
    · rw [upd_same]
      unfold rowWord
      rw [hs]
    · rw [hs] at z
      cases z
  · exact ht _ _ (fun hs v G sm gd => ⟨hs, sm, gd⟩) (fun i hs d G sm nd hd => ⟨rfl, d, i, rfl, hs, sm, hd⟩)
/-- the same where the question has two rows -/
theorem why_gen {C C2 C3 C4 C5 C6 C7 C8 : Addr} {H : Hp} {Q : VK} (me : PySem.W.exmOne K (.ref C) (.ref C) = some true) (Rz : Nat → Prop) (Gd : V → Hp → Prop)
    (hQ1 : ∀ (p : Addr) (G G0 : Hp) (v : V), Same H G0 → Same G0 G → G p = some (.tup [v, .str ""]) → H p = none → Gd v G0 → Q (.ref p) G)
    (hQ2 : ∀ (p : Addr) (G : Hp) (i : Nat), Rz i → Same H G → G p = some (.tup [.non, .str ((Str.ofString "badrow ") ++ (toString (i : Int) : String))]) → H p = none → Q (.ref p) G)
    {tl' : XK → Hp → VK → Prop} (ht : ∀ (E : XK) (Q' : VK), (∀ v G, Same H G → Gd v G → Q' v G) → (∀ (i : Nat) (d : Addr) (G : Hp), Rz i → i ≤ 100000 → Same H G → G d = some (.xd [("at", .int (i : Nat))]) → E (.ref C) (some d) G) → tl' E H Q') :
    TTwhy K (whyL C C2 C3 C4 C5 C6 C7 C8) tl' H Q := by
  refine ⟨fun cls dd G => cls = .ref C ∧ ∃ (d : Addr) (i : Nat), dd = some d ∧ Rz i ∧ i ≤ 100000 ∧ Same H G ∧ G d = some (.xd [("at", .int (i : Nat))]), fun v G => Same H G ∧ Gd v G, ?_, ?_, ?_⟩
  · rintro f cls dd G ⟨rfl, d, i, rfl, hs, hi, sm, hd⟩
    refine ⟨true, me, fun _ a na => ?_, fun z => nomatch z⟩
    refine ⟨.ref a, rfl, rfl, rfl, d, [("at", .int (i : Nat))], .int (i : Nat), rfl, hd, rfl, (i : Int), rfl, small_log hi, _, _, rfl, rfl, word_size hi, ?_⟩
    refine ⟨.non, rfl, _, rfl, by show 2 ≤ sizeLine; decide, fun p np => ?_⟩
    exact hQ2 p _ i hs (sm.trans (same_new np)) upd_same (sm.free np)
  · rintro v G ⟨sm, gd⟩ p np
    exact hQ1 p _ G v sm (same_new np) upd_same (sm.free np) gd
  · exact ht _ _ (fun v G sm gd => ⟨sm, gd⟩) (fun i d G hs hi sm hd => ⟨rfl, d, i, rfl, hs, hi, sm, hd⟩)
theorem word_none {x : Str} (h : strange (tl x) = none) : rowWord x = "" := by
  unfold rowWord
  rw [h]
theorem word_some {x : Str} {i : Nat} (h : strange (tl x) = some i) : rowWord x = (Str.ofString "badrow ") ++ (toString (i : Int) : String) := by
  unfold rowWord
  rw [h]
theorem bad_ne (i : Nat) : V.str ((Str.ofString "badrow ") ++ (toString (i : Int) : String)) ≠ V.str "" := fun z => by
  have e := congrArg (fun y : Str => (tl y).length) (V.str.inj z)
  have e2 : (tl ((Str.ofString "badrow ") ++ (toString (i : Int) : String))).length = 0 := e
  rw [tl_append, List.length_append] at e2
  have e3 : (tl (Str.ofString "badrow ")).length = 7 := rfl
  omega
end
end K01

set_option Elab.async false
set_option linter.all false
set_option maxRecDepth 100000
set_option maxHeartbeats 4000000
namespace K01
open PySem PySem.Spec PyProof.Rows L2 Pw TL
section
variable {P : Program} {w : World} {K : PySem.W.Frag} {mg : Str → Option Value} {base : Heap}
open LamX
/-! law -/
abbrev sLW : Stmt := topS 41
abbrev nLW : List Str := ["_law_script", "_law_draw", "_law_turn", "_law_at", "_law_word", "_law_dues", "_law_found", "_law_due", "_law_late", "_law_piece", "_law_row_here"]
theorem scLW : FnScope nLW ["_law_script"] (defScope sLW) := ⟨rfl, rfl, rfl, by decide +kernel, rfl, by decide +kernel, by decide +kernel⟩
def qL : Str := (envOfC "law" (defScope sLW) 0 0 Value.none).qual ++ "<lambda>"
/-- a def of the text, as its callers have it -/
structure Use (P : Program) (w : World) (K : PySem.W.Frag) (mg : Str → Option Value) (base : Heap) (CX : CXT) (k : Nat) (x : Str) (ps : List Str) (sp : Sp) : Prop where
  ex : ∃ (f : Addr) (fd : FuncData), FnOk P w K mg base CX k f fd ps sp ∧ mg x = some (.ref f) ∧ PySem.W.keepIn K (.ref f) = true ∧ Binds K fd ps []
theorem seq_ext {H H' : Hp} {a : Addr} {xs : List V} (s : ExtN H H') (h : SqL K H a xs) : SqL K H' a xs := by
  rcases h with (h | ⟨o, h⟩) | h
  · exact .inl (.inl (s _ _ h (fun _ z => by cases z)))
  · exact .inl (.inr ⟨o, s _ _ h (fun _ z => by cases z)⟩)
  · exact .inr h
theorem tup_ext {H H' : Hp} {a : Addr} {xs : List V} (s : ExtN H H') (h : SqT K H a xs) : SqT K H' a xs := by
  rcases h with (h | ⟨o, h⟩) | h
  · exact .inl (.inl (s _ _ h (fun _ z => by cases z)))
  · exact .inl (.inr ⟨o, s _ _ h (fun _ z => by cases z)⟩)
  · exact .inr h
theorem Lk.ext {H H' : Hp} (s : ExtN H H') : ∀ {n : Nat} {v u : V}, Lk K H n v u → Lk K H' n v u := by
  intro n v u h
  induction h with
  | non => exact .non
  | bl b => exact .bl b
  | int i => exact .int i
  | str x => exact .str x
  | lst ha hb hl hz _ ih => exact .lst (seq_ext s ha) (seq_ext s hb) hl hz ih
  | tup ha hb hl hz _ ih => exact .tup (tup_ext s ha) (tup_ext s hb) hl hz ih
theorem Dr.ext {p q : Addr} {ns : List Int} {H H' : Hp} (h : Dr p q ns H) (s : ExtN H H') : Dr p q ns H' := ⟨s _ _ h.1 (fun _ z => by cases z), let ⟨a, b, c, e, r⟩ := h.2; ⟨a, b, c, s _ _ e (fun _ z => by cases z), r⟩⟩
theorem ext_same {H H' : Hp} (s : Same H H') : ExtN H H' := fun b o e _ => s b o e
theorem tabs_same {T : List (Addr × Str)} {H H' : Hp} (t : Tabs T H) (s : Same H H') : Tabs T H' := t.ext s
theorem tabs_x {T : List (Addr × Str)} {H H' : Hp} {p : Addr} {xs : List V} (t : Tabs T H) (hp : H p = some (.lst xs)) (s : SameX p H H') : Tabs T H' := fun e he => by
  obtain ⟨ps, h1, h2, h3⟩ := t e he
  refine ⟨ps, s _ _ h1 (fun z => ?_), h2, fun pos cv hc => ?_⟩
  · rw [z, hp] at h1
    cases h1
  · obtain ⟨c, e1, e2⟩ := h3 pos cv hc
    refine ⟨c, e1, s _ _ e2 (fun z => ?_)⟩
    rw [z, hp] at e2
    have e3 : HO.lst xs = CodeO p e.2 := Option.some.inj e2
    unfold CodeO at e3
    cases e3
theorem Dr.at {p q : Addr} {ns : List Int} {H : Hp} (h : Dr p q ns H) : ∃ xs, H p = some (.lst xs) := let ⟨_, a, b, c, e, _⟩ := h; ⟨_, e⟩
/-- all that the law calls -/
structure Calls (P : Program) (w : World) (K : PySem.W.Frag) (mg : Str → Option Value) (base : Heap) (C : Addr) : Prop where
  B : BN mg
  op : Use P w K mg base CX0 1 "_law_open" ["_law_script"] (spOP K)
  pu : Use P w K mg base CX0 1 "_law_pull" ["_law_draw", "_law_total_of"] spPU
  od : Use P w K mg base CX0 3 "_law_odd_row" ["_law_draw", "_law_many"] spOR
  rw : Use P w K mg base CX0 2 "_law_row_word" ["_law_text"] spRW
  ls : Use P w K mg base CX0 2 "_law_swing" ["_law_row_here"] spLS
  lg : Use P w K mg base CX0 1 "_law_gaps" ["_law_row_here"] spLG
  li : Use P w K mg base CX0 1 "_law_idle" ["_law_row_here"] spLI
  lk : Use P w K mg base CX0 5 "_law_like" ["_law_found", "_law_due"] (spLK K 4)
  to : Use P w K mg base (L2.CX P w) 4 "total" ["row"] (spTO C)
  sw : Use P w K mg base (L2.CX P w) 4 "swing" ["row"] (spSW C)
  ga : Use P w K mg base (L2.CX P w) 4 "gaps" ["row"] (spGA C)
  id : Use P w K mg base (L2.CX P w) 4 "idle" ["row"] (spID C)
  ho : Use P w K mg base (L2.CX P w) 4 "holds" ["row", "piece"] (spHO C)
/-- what is due of the row x: the list at d -/
def Dues (x : Str) (d d1 d2 d3 d4 : V) (H : Hp) : Prop := (∃ b, d = .ref b ∧ H b = some (.lst [d1, d2, d3, d4])) ∧
  ((strange (tl x) = none ∧ d1 = .int (((tl x).count 49 : Nat) - ((tl x).count 48 : Nat)) ∧ d2 = .int ((hiS (tl x)).2.1 - (hiS (tl x)).2.2) ∧ (∃ g, d3 = .ref g ∧ H g = some (.lst ((gapsV x).map V.int))) ∧ d4 = .int (idleL 0 0 (tl x))) ∨
    ∃ i, strange (tl x) = some i ∧ d1 = .non ∧ d2 = .non ∧ d3 = .non ∧ d4 = .non)
theorem up_ne {G : Hp} {pf b : Addr} {o u : HO} (h : G b = some u) (ne : b ≠ pf) : upd G pf o b = some u := by
  rw [upd_ne ne]
  exact h
theorem Dr.upd {p q e : Addr} {ns : List Int} {H : Hp} {o : HO} (h : Dr p q ns H) (n1 : p ≠ e) (n2 : q ≠ e) : Dr p q ns (upd H e o) := ⟨up_ne h.1 n2, let ⟨a, b, c, e1, r⟩ := h.2; ⟨a, b, c, up_ne e1 n1, r⟩⟩
/-- between the questions: the list of answers at pf, what is due at d (the gaps at g), the draw, the tables -/
structure Stg (x : Str) (p qq : Addr) (ms : List Int) (Pt d g pf : Addr) (d1 d2 d3 d4 : V) (ts : List Addr) (G : Hp) : Prop where
  hpf : G pf = some (.lst (ts.map V.ref))
  hd : G d = some (.lst [d1, d2, d3, d4])
  hg : strange (tl x) = none → G g = some (.lst ((gapsV x).map V.int))
  hdr : Dr p qq ms G
  htb : Tabs [(Pt, qL)] G
  nd : d ≠ pf
  ng : strange (tl x) = none → g ≠ pf
  np : p ≠ pf
  nq : qq ≠ pf
section
variable {x : Str} {p qq : Addr} {ms : List Int} {Pt d g pf : Addr} {d1 d2 d3 d4 : V} {ts : List Addr} {G G' : Hp}
theorem Stg.ext (h : Stg x p qq ms Pt d g pf d1 d2 d3 d4 ts G) (e : ExtN G G') (tb : Tabs [(Pt, qL)] G') : Stg x p qq ms Pt d g pf d1 d2 d3 d4 ts G' :=
  ⟨e _ _ h.hpf (fun _ z => by cases z), e _ _ h.hd (fun _ z => by cases z), fun z => e _ _ (h.hg z) (fun _ z => by cases z), h.hdr.ext e, tb, h.nd, h.ng, h.np, h.nq⟩
theorem Stg.same (h : Stg x p qq ms Pt d g pf d1 d2 d3 d4 ts G) (e : Same G G') : Stg x p qq ms Pt d g pf d1 d2 d3 d4 ts G' := h.ext (ext_same e) (tabs_same h.htb e)
theorem Stg.app (h : Stg x p qq ms Pt d g pf d1 d2 d3 d4 ts G) (t : Addr) : Stg x p qq ms Pt d g pf d1 d2 d3 d4 (ts ++ [t]) (upd G pf (.lst (ts.map V.ref ++ [.ref t]))) :=
  ⟨by rw [upd_same, List.map_append]; rfl, up_ne h.hd h.nd, fun z => up_ne (h.hg z) (h.ng z), h.hdr.upd h.np h.nq, tabs_x h.htb h.hpf (SameX.refl pf G).put, h.nd, h.ng, h.np, h.nq⟩
theorem tu_ext {t : Addr} {xs : List V} (h : G t = some (.tup xs)) (e : ExtN G G') : G' t = some (.tup xs) := e _ _ h (fun _ z => by cases z)
theorem tu_app {t : Addr} {xs ys : List V} {o : HO} (h : G t = some (.tup xs)) (hp : G pf = some (.lst ys)) : upd G pf o t = some (.tup xs) := up_ne h (ne_of h hp (fun z => by cases z))
end
theorem lk_pair {H : Hp} {n : Nat} {t u : Addr} {v e : V} {z : Str} (h1 : H t = some (.tup [v, .str z])) (h2 : H u = some (.tup [e, .str z])) (L : Lk K H n v e) : Lk K H (n + 1) (.ref t) (.ref u) :=
  .tup (.inl (.inl h1)) (.inl (.inl h2)) rfl (by show 2 ≤ 1001; decide) (fun i a b ha hb => match i, ha, hb with
    | 0, ha, hb => by
      obtain rfl : v = a := Option.some.inj ha
      obtain rfl : e = b := Option.some.inj hb
      exact L
    | 1, ha, hb => by
      obtain rfl : V.str z = a := Option.some.inj ha
      obtain rfl : V.str z = b := Option.some.inj hb
      exact .str z
    | _ + 2, ha, _ => by simp at ha)
theorem lk_ints {H : Hp} {n : Nat} {r g : Addr} {l : List Int} (h1 : H r = some (.lst (l.map V.int))) (h2 : H g = some (.lst (l.map V.int))) (hl : l.length ≤ 1001) : Lk K H (n + 1) (.ref r) (.ref g) :=
  .lst (SqL.of h1) (SqL.of h2) rfl (by rw [List.length_map]; exact hl) (fun i a b ha hb => by
    rw [ha] at hb
    obtain rfl : a = b := Option.some.inj hb
    rw [List.getElem?_map] at ha
    cases e : l[i]? with
    | none =>
      rw [e] at ha
      cases ha
    | some z =>
      rw [e] at ha
      obtain rfl : V.int z = a := Option.some.inj ha
      exact .int z)
theorem gaps_len {x : Str} (h : (tl x).length ≤ 1000) : (gapsV x).length ≤ 1001 := by
  unfold gapsV
  rw [List.length_map, List.length_dropLast, List.length_drop]
  have := runL_len (tl x) 0
  omega
/-- which of the two rows is refused, and where -/
def Rz2 (x y : Str) (i : Nat) : Prop := strange (tl x) = some i ∨ (strange (tl x) = none ∧ strange (tl y) = some i)
theorem Rz2.eq {x y : Str} {i j : Nat} (a : Rz2 x y i) (b : Rz2 x y j) : i = j := by
  rcases a with a | ⟨a1, a2⟩ <;> rcases b with b | ⟨b1, b2⟩
  · rw [a] at b
    exact Option.some.inj b
  · rw [a] at b1
    cases b1
  · rw [a1] at b
    cases b
  · rw [a2] at b2
    exact Option.some.inj b2
def spLW (K : PySem.W.Frag) (Pt : Addr) : Sp := fun vs H Q _ => ∃ (a : Addr) (ns : List Int), vs = [.ref a] ∧ SqL K H a (ns.map V.int) ∧ Tabs [(Pt, qL)] H ∧ ∀ H', Q (.bl true) H'
theorem ok_lw {f fW c Pt C C2 C3 C4 C5 C6 C7 D8 : Addr} {dV kV doc pm ct oc dV' kV' doc' pm' cdw ct' oc' : Value} {an od an' od' : Option Addr} {osl osl' : Array (Option Value)}
    (lk : K.lookup f = some ⟨oc, od, .func (PySem.W.fnOf "law" "law" (defArgs sLW) (defBody sLW) (defScope sLW) dV kV doc pm an (.ref c) ct), osl⟩) (hcd : PySem.W.codeIn K (.ref c) "law" = true)
    (lkW : K.lookup fW = some ⟨oc', od', .func (PySem.W.fnOf "_law_why" "_law_why" (defArgs sWH) (defBody sWH) (defScope sWH) dV' kV' doc' pm' an' cdw ct'), osl'⟩) (hcW : PySem.W.codeIn K cdw "_law_why" = true) (mW : mg "_law_why" = some (.ref fW)) (kW : PySem.W.keepIn K (.ref fW) = true)
    (bW : Binds K (PySem.W.fnOf "_law_why" "_law_why" (defArgs sWH) (defBody sWH) (defScope sWH) dV' kV' doc' pm' an' cdw ct') ["_law_ask"] [])
    (TB : TabB base mg c Pt) (T : Cls8 K mg C) (h2 : mg "BadRule" = some (.ref C2)) (h3 : mg "BadPace" = some (.ref C3)) (h4 : mg "TooWide" = some (.ref C4)) (h5 : mg "Unlawful" = some (.ref C5)) (h6 : mg "BadLength" = some (.ref C6)) (h7 : mg "BadText" = some (.ref C7)) (h8 : mg "PulseError" = some (.ref D8))
    (Z : Calls P w K mg base C) :
    FnOk P w K mg base CX0 7 f (PySem.W.fnOf "law" "law" (defArgs sLW) (defBody sLW) (defScope sLW) dV kV doc pm an (.ref c) ct) ["_law_script"] (spLW K Pt) := by
  obtain ⟨fOP, fdOP, GOP, opm, opk, opb⟩ := Z.op.ex
  obtain ⟨fPU, fdPU, GPU, pum, puk, pub⟩ := Z.pu.ex
  obtain ⟨fOR, fdOR, GOR, orm, ork, orb⟩ := Z.od.ex
  obtain ⟨fRW, fdRW, GRW, rwm, rwk, rwb⟩ := Z.rw.ex
  obtain ⟨fLS, fdLS, GLS, lsm, lsk, lsb⟩ := Z.ls.ex
  obtain ⟨fLG, fdLG, GLG, lgm, lgk, lgb⟩ := Z.lg.ex
  obtain ⟨fLI, fdLI, GLI, lim, lik, lib⟩ := Z.li.ex
  obtain ⟨fLK, fdLK, GLK, lkm, lkk, lkb⟩ := Z.lk.ex
  obtain ⟨fTO, fdTO, GTO, tom, tok, tob⟩ := Z.to.ex
  obtain ⟨fSW, fdSW, GSW, swm, swk, swb⟩ := Z.sw.ex
  obtain ⟨fGA, fdGA, GGA, gam, gak, gab⟩ := Z.ga.ex
  obtain ⟨fID, fdID, GID, idm, idk, idb⟩ := Z.id.ex
  obtain ⟨fHO, fdHO, GHO, hom, hok, hob⟩ := Z.ho.ex
  refine fn_of lk hcd scLW (fun vs H Q E h => ?_) (fun A outer s H vs Q E hr h => ?_)
  · obtain ⟨a, ns, rfl, _⟩ := h
    rfl
  · obtain ⟨a, ns, rfl, hS, hT, q⟩ := h
    have r1 : Room 1 _ := hr.mono (by decide)
    have r2 : Room 2 _ := hr.mono (by decide)
    have r3 : Room 3 _ := hr.mono (by decide)
    have r4 : Room 4 _ := hr.mono (by decide)
    have r5 : Room 5 _ := hr.mono (by decide)
    have whyG : ∀ X : Cx, X.K = K → X.mg = mg → GivesW X ["_law_ask", "_law_told", "_law_word", "_law_e"] "_law_why" (defScope sWH) fW cdw (defBody sWH) "_law_ask" (X.env.qual ++ "<lambda>") (TTwhy K (whyL C C2 C3 C4 C5 C6 C7 D8)) := fun X e1 e2 => by
      subst e1
      subst e2
      exact why_ok T h2 h3 h4 h5 h6 h7 h8
    suffices hh : ∃ t, PSs (cxOf CX0 P w K mg base nLW "law" (defScope sLW) f (.ref c) A outer s H E).nox (defBody sLW) t ∧ t { nx := fun _ H' => Q .non H', rt := Q } (L2.start nLW [.ref a]) H by
      obtain ⟨t, h1, h2⟩ := hh
      exact ⟨t, h1.nox, h2⟩
    refine ⟨_, pss_cons (ps_set (i := 1) scLW.nd rfl (.inl rfl) (pe_call GOP r1 rfl opm opk opb .nil pass0 (pa_cons (pv 0) pa_nil)))
      (pss_cons (ps_for PassesOwn.never rfl (pi_range1 rfl Z.B.rng (pa_cons pe_int pa_nil)) (pg_name (i := 2) scLW.nd rfl (.inl rfl))
        (pss_cons (ps_set (i := 10) scLW.nd rfl (.inr rfl) (pe_call GOR r3 rfl orm ork orb .nil pass0 (pa_cons (pv 1) (pa_cons pe_int pa_nil))))
        (pss_cons (ps_set (i := 9) scLW.nd rfl (.inr rfl) (pe_call GOR r3 rfl orm ork orb .nil pass0 (pa_cons (pv 1) (pa_cons pe_int pa_nil))))
        (_root_.C8.pss_cut (ps_if (PW.pt (pw_and (pt_cmpR op_eq (pe_call GPU r1 rfl pum puk pub .nil pass0 (pa_cons (pv 1) (pa_cons pe_int pa_nil))) pe_int (nomark _)) (pw_and1 (pt_cmpR op_ne (pv 10) pe_str (nomark _)))))
            (pss_cons (ps_set (i := 3) scLW.nd rfl (.inl rfl) (pe_call GPU r1 rfl pum puk pub .nil pass0 (pa_cons (pv 1) (pa_cons (pe_callB call_len_str (by rfl) Z.B.len PySem.boot_len (pa_cons (pv 10) pa_nil)) pa_nil))))
            (pss_one (ps_set (i := 9) scLW.nd rfl (.inr rfl) (pe_slice sl_str (pv 10) (po_some (pv 3)) (po_some (pe_op op_add (pv 3) (pe_call GPU r1 rfl pum puk pub .nil pass0 (pa_cons (pv 1) (pa_cons pe_int pa_nil))))))))) pss_nil)
        (pss_cons (ps_set (i := 4) scLW.nd rfl (.inr rfl) (pe_call GRW r2 rfl rwm rwk rwb .nil pass0 (pa_cons (pv 10) pa_nil)))
        (pss_cons (ps_set (i := 5) scLW.nd rfl (.inl rfl) (pe_lst (pa_cons pe_non (pa_cons pe_non (pa_cons pe_non (pa_cons pe_non pa_nil))))))
        (_root_.C8.pss_cut (ps_if (pt_cmpR op_eq (pv 4) pe_str (nomark _)) (pss_one (ps_set (i := 5) scLW.nd rfl (.inl rfl) (pe_lst (pa_cons (pe_op op_sub (pe_op op_mul pe_int (pe_m1 PySem.F.slot_str_count PySem.F.type_str_count mt_count (pv 10) pe_str)) (pe_callB call_len_str (by rfl) Z.B.len PySem.boot_len (pa_cons (pv 10) pa_nil)))
            (pa_cons (pe_call GLS r2 rfl lsm lsk lsb .nil pass0 (pa_cons (pv 10) pa_nil)) (pa_cons (pe_call GLG r1 rfl lgm lgk lgb .nil pass0 (pa_cons (pv 10) pa_nil)) (pa_cons (pe_call GLI r1 rfl lim lik lib .nil pass0 (pa_cons (pv 10) pa_nil)) pa_nil))))))) pss_nil)
        (pss_cons (ps_set (i := 6) scLW.nd rfl (.inl rfl) (pe_lst (pa_cons (pe_lamW (T := [(Pt, qL)]) (k := 4) (x := "_law_why") (a := "_law_ask") rfl mW kW lkW hcW bW scWH rfl (.inl rfl) (whyG _ rfl rfl) TB rfl (List.mem_singleton.mpr rfl) (fun p hp _ => by rw [List.mem_singleton.mp hp]; rfl) hr (lamS_by (sc := defScope sLW) (by decide +kernel)) rfl (fun _ _ _ _ _ => rfl)
            (fun A outer s H E f c' hr4 => pe_call (E := E) GTO hr4 rfl tom tok tob .nil (passes_call (takes_of rfl rfl rfl rfl) (fun _ _ _ _ z => z)) (pa_cons (pv 10) pa_nil))) pa_nil)))
        (pss_cons (ps_expr (pe_bm PySem.F.plainAttrs_list PySem.F.slot_list_append PySem.F.type_list_append mt_append (pv 6) (pa_cons (pe_lamW (T := [(Pt, qL)]) (k := 4) (x := "_law_why") (a := "_law_ask") rfl mW kW lkW hcW bW scWH rfl (.inl rfl) (whyG _ rfl rfl) TB rfl (List.mem_singleton.mpr rfl) (fun p hp _ => by rw [List.mem_singleton.mp hp]; rfl) hr (lamS_by (sc := defScope sLW) (by decide +kernel)) rfl (fun _ _ _ _ _ => rfl)
            (fun A outer s H E f c' hr4 => pe_call (E := E) GSW hr4 rfl swm swk swb .nil (passes_call (takes_of rfl rfl rfl rfl) (fun _ _ _ _ z => z)) (pa_cons (pv 10) pa_nil))) pa_nil)))
        (pss_cons (ps_expr (pe_bm PySem.F.plainAttrs_list PySem.F.slot_list_append PySem.F.type_list_append mt_append (pv 6) (pa_cons (pe_lamW (T := [(Pt, qL)]) (k := 4) (x := "_law_why") (a := "_law_ask") rfl mW kW lkW hcW bW scWH rfl (.inl rfl) (whyG _ rfl rfl) TB rfl (List.mem_singleton.mpr rfl) (fun p hp _ => by rw [List.mem_singleton.mp hp]; rfl) hr (lamS_by (sc := defScope sLW) (by decide +kernel)) rfl (fun _ _ _ _ _ => rfl)
            (fun A outer s H E f c' hr4 => pe_call (E := E) GGA hr4 rfl gam gak gab .nil (passes_call (takes_of rfl rfl rfl rfl) (fun _ _ _ _ z => z)) (pa_cons (pv 10) pa_nil))) pa_nil)))
        (pss_cons (ps_expr (pe_bm PySem.F.plainAttrs_list PySem.F.slot_list_append PySem.F.type_list_append mt_append (pv 6) (pa_cons (pe_lamW (T := [(Pt, qL)]) (k := 4) (x := "_law_why") (a := "_law_ask") rfl mW kW lkW hcW bW scWH rfl (.inl rfl) (whyG _ rfl rfl) TB rfl (List.mem_singleton.mpr rfl) (fun p hp _ => by rw [List.mem_singleton.mp hp]; rfl) hr (lamS_by (sc := defScope sLW) (by decide +kernel)) rfl (fun _ _ _ _ _ => rfl)
            (fun A outer s H E f c' hr4 => pe_call (E := E) GID hr4 rfl idm idk idb .nil (passes_call (takes_of rfl rfl rfl rfl) (fun _ _ _ _ z => z)) (pa_cons (pv 10) pa_nil))) pa_nil)))
        (pss_cons (ps_if (pt_not (pt_val (pe_call GLK r5 rfl lkm lkk lkb .nil pass0 (pa_cons (pv 6) (pa_cons (pe_lc (own := [("_law_due", 7)]) (g := gName 7) (tt := tYes) rfl scLW.nd (pi_list (pv 5)) (blkOk_by (N := nLW) (sc := defScope sLW) (by decide +kernel))
            (fun _ _ _ _ _ => pg_name (i := 7) scLW.nd rfl (Or.inl rfl)) (fun _ _ _ _ _ => pts_nil) (fun _ _ _ _ _ => pe_tup (pa_cons (pv 7) (pa_cons (pv 4) pa_nil)))) pa_nil))))) (pss_one (ps_ret pe_bl)) pss_nil)
        (_root_.C8.pss_cut (ps_set (i := 8) scLW.nd rfl (.inl rfl) (pe_ifExp (pt_cmpR op_ne (pv 4) pe_str (nomark _)) (pv 4) (pe_call GRW r2 rfl rwm rwk rwb .nil pass0 (pa_cons (pv 9) pa_nil))))
        (_root_.C8.pss_cut (ps_set (i := 7) scLW.nd rfl (.inl rfl) (pe_ifExp (pt_cmpR op_ne (pv 8) pe_str (nomark _)) pe_non (pe_cmpR op_in_str (pv 9) (pv 10) (by rfl))))
        (_root_.C8.pss_cut (ps_if (pt_not (pt_val (pe_call GLK r5 rfl lkm lkk lkb .nil pass0 (pa_cons (pe_lamW (T := [(Pt, qL)]) (k := 4) (x := "_law_why") (a := "_law_ask") rfl mW kW lkW hcW bW scWH rfl (.inl rfl) (whyG _ rfl rfl) TB rfl (List.mem_singleton.mpr rfl) (fun p hp _ => by rw [List.mem_singleton.mp hp]; rfl) hr (lamS_by (sc := defScope sLW) (by decide +kernel)) rfl (fun _ _ _ _ _ => rfl)
            (fun A outer s H E f c' hr4 => pe_call (E := E) GHO hr4 rfl hom hok hob .nil (passes_call (takes_of rfl rfl rfl rfl) (fun _ _ _ _ z => z)) (pa_cons (pv 10) (pa_cons (pv 9) pa_nil)))) (pa_cons (pe_tup (pa_cons (pv 7) (pa_cons (pv 8) pa_nil))) pa_nil))))) (pss_one (ps_ret pe_bl)) pss_nil)
        (pss_one (ps_if (pt_cmpR op_eq (pv 4) pe_str (nomark _))
          (pss_cons (ps_expr (pe_bm PySem.F.plainAttrs_list PySem.F.slot_list_append PySem.F.type_list_append mt_append (pe_call GGA r4 rfl gam gak gab .nil passL (pa_cons (pv 10) pa_nil)) (pa_cons pe_int pa_nil)))
          (pss_one (ps_if (pt_not (pt_val (pe_call GLK r5 rfl lkm lkk lkb .nil pass0 (pa_cons (pe_call GGA r4 rfl gam gak gab .nil passL (pa_cons (pv 10) pa_nil)) (pa_cons (pe_ix ix_list (pv 5) pe_int (fun _ _ => rfl)) pa_nil))))) (pss_one (ps_ret pe_bl)) pss_nil))) pss_nil)))))))))))))))))
      (pss_one (ps_ret pe_bl))), ?_⟩
    refine ⟨.ref a, rfl, a, ns, rfl, hS, fun H1 p qq ms s1 np hD1 => ?_⟩
    have hT1 := tabs_same hT s1
    refine ⟨6, rfl, by decide, by decide, for_range (lo := 0) (n := 6) (fun _ σ H2 => (∃ y2 y3 y4 y5 y6 y7 y8 y9 y10, σ = [some (.ref a), some (.ref p), y2, y3, y4, y5, y6, y7, y8, y9, y10]) ∧ Dr p qq ms H2 ∧ Tabs [(Pt, qL)] H2)
      ⟨⟨none, none, none, none, none, none, none, none, none, rfl⟩, hD1, hT1⟩ (fun i σ H2 _ h => ?_) (fun σ H2 h => ?_)⟩
    · obtain ⟨⟨y2, y3, y4, y5, y6, y7, y8, y9, y10, rfl⟩, hD2, hT2⟩ := h
      refine ⟨.ref p, rfl, p, qq, ms, 30, rfl, by decide, hD2, fun x H3 hx sx3 hD3 => ?_⟩
      obtain ⟨_, hp2⟩ := hD2.at
      have hT3 := tabs_x hT2 hp2 sx3
      refine ⟨.ref p, rfl, p, qq, ms, 5, rfl, by decide, hD3, fun y H4 hy sx4 hD4 => ?_⟩
      obtain ⟨_, hp3⟩ := hD3.at
      have hT4 := tabs_x hT3 hp3 sx4
      obtain ⟨_, hp4⟩ := hD4.at
      refine ⟨fun σ H5 => (∃ y3' y, (tl y).length ≤ 1000 ∧ σ = [some (.ref a), some (.ref p), some (.int (0 + (i : Int))), y3', y4, y5, y6, y7, y8, some (.str y), some (.str x)]) ∧ Dr p qq ms H5 ∧ Tabs [(Pt, qL)] H5, ?_, ?_⟩
      · refine ⟨.ref p, rfl, p, qq, ms, 3, rfl, by decide, by decide, hD4, fun v H5 _ _ sx5 hD5 => ?_⟩
        have hT5 := tabs_x hT4 hp4 sx5
        have hz : x.length ≤ sizeLine := by
          rw [len_tl]
          exact Nat.le_of_lt (small1000 hx)
        refine ⟨rfl, _, rfl, ?_⟩
        by_cases hv : v = 0
        · rw [decide_eq_true (by rw [hv])]
          refine iteT ⟨_, rfl, rfl, _, rfl, ?_⟩
          by_cases hx0 : V.str x = V.str ""
          · rw [decide_eq_true hx0]
            exact iteF ⟨⟨y3, y, hy, rfl⟩, hD5, hT5⟩
          · rw [decide_eq_false hx0]
            have hpos : 0 < x.length := by
              rw [len_tl]
              cases e : tl x with
              | nil => exact absurd (by rw [ext_tl (x := x) (y := "") (by rw [e]; rfl)]) hx0
              | cons _ _ => exact Nat.succ_pos _
            obtain ⟨_, hp5⟩ := hD5.at
            refine iteT ⟨.ref p, rfl, _, rfl, x, rfl, hz, p, qq, ms, (x.length : Int), rfl, by omega, by rw [len_tl]; omega, hD5, fun v2 H6 _ _ sx6 hD6 => ?_⟩
            have hT6 := tabs_x hT5 hp5 sx6
            obtain ⟨_, hp6⟩ := hD6.at
            refine ⟨_, rfl, _, rfl, v2, rfl, _, rfl, .ref p, rfl, p, qq, ms, 5, rfl, by decide, by decide, hD6, fun v3 H7 _ _ sx7 hD7 => ?_⟩
            have hl2 := cutS_length x (some v2) (some (v2 + v3))
            rw [len_tl, len_tl] at hl2
            exact ⟨v2, v3, rfl, rfl, v2 + v3, rfl, x, rfl, hz, ⟨_, _, Nat.le_trans hl2 hx, rfl⟩, hD7, tabs_x hT6 hp6 sx7⟩
        · rw [decide_eq_false (fun z => hv (V.int.inj z))]
          exact iteF (iteF ⟨⟨y3, y, hy, rfl⟩, hD5, hT5⟩)
      · rintro σ H5 ⟨⟨y3', y, hy, rfl⟩, hD5, hT5⟩
        have hz : x.length ≤ sizeLine := by
          rw [len_tl]
          exact Nat.le_of_lt (small1000 hx)
        refine ⟨_, rfl, x, rfl, hx, fun H6 s6 => ?_⟩
        have hD6 := hD5.same s6
        have hT6 := tabs_same hT5 s6
        refine ⟨by show 4 ≤ sizeLine; decide, fun d0 n0 => ?_⟩
        have hD7 := hD6.same (same_new (o := .lst [.non, .non, .non, .non]) n0)
        have hT7 := tabs_same hT6 (same_new (o := .lst [.non, .non, .non, .non]) n0)
        refine ⟨fun σ H7 => ∃ d d1 d2 d3 d4, σ = [some (.ref a), some (.ref p), some (.int (0 + (i : Int))), y3', some (.str (rowWord x)), some d, y6, y7, y8, some (.str y), some (.str x)] ∧ Dues x d d1 d2 d3 d4 H7 ∧ Dr p qq ms H7 ∧ Tabs [(Pt, qL)] H7, ?_, ?_⟩
        · refine ⟨_, rfl, rfl, _, rfl, ?_⟩
          cases hs : strange (tl x) with
          | some j =>
            rw [decide_eq_false (by rw [word_some hs]; exact bad_ne j)]
            exact iteF ⟨_, _, _, _, _, rfl, ⟨⟨d0, rfl, upd_same⟩, .inr ⟨j, hs, rfl, rfl, rfl, rfl⟩⟩, hD7, hT7⟩
          | none =>
            rw [decide_eq_true (by rw [word_none hs])]
            have hp := pure_of hs
            refine iteT ⟨_, rfl, ⟨_, rfl⟩, x, _, rfl, rfl, 2, _, rfl, rfl, .inl ⟨by decide, by decide⟩, _, rfl, x, rfl, hz, _, _, rfl, rfl, ?_⟩
            refine ⟨_, rfl, x, rfl, hx, hp, fun H8 s8 => ⟨_, rfl, x, rfl, hx, fun H9 g s9 ng hg => ⟨_, rfl, x, rfl, by show 4 ≤ sizeLine; decide, fun d nd => ?_⟩⟩⟩
            have sA := (s8.trans s9).trans (same_new (o := .lst [.int (2 * Txt.count x "1" - (x.length : Int)), .int ((hiS (tl x)).2.1 - (hiS (tl x)).2.2), .ref g, .int (idleL 0 0 (tl x))]) nd)
            refine ⟨_, _, _, _, _, rfl, ⟨⟨d, rfl, upd_same⟩, .inl ⟨hs, ?_, rfl, ⟨g, rfl, ?_⟩, rfl⟩⟩, hD7.same sA, tabs_same hT7 sA⟩
            · rw [count_sign (x := x) (y := "1") (s := 49) rfl, len_tl]
              have := count_pure hp
              exact congrArg V.int (by omega)
            · exact up_ne hg (ne_of_none hg nd)
        · rintro σ H7 ⟨dv, d1, d2, d3, d4, rfl, hU, hD7, hT7⟩
          obtain ⟨⟨d, rfl, hd⟩, hdd⟩ := hU
          have f1 : ∀ {v : V}, (strange (tl x) = none → v = d1) → (∀ j, strange (tl x) = some j → v = .non) → v = d1 := fun {v} gd gn => hdd.elim (fun h => gd h.1) (fun ⟨j, hj, h, _⟩ => (gn j hj).trans h.symm)
          have f2 : ∀ {v : V}, (strange (tl x) = none → v = d2) → (∀ j, strange (tl x) = some j → v = .non) → v = d2 := fun {v} gd gn => hdd.elim (fun h => gd h.1) (fun ⟨j, hj, _, h, _⟩ => (gn j hj).trans h.symm)
          have f4 : ∀ {v : V}, (strange (tl x) = none → v = d4) → (∀ j, strange (tl x) = some j → v = .non) → v = d4 := fun {v} gd gn => hdd.elim (fun h => gd h.1) (fun ⟨j, hj, _, _, _, h⟩ => (gn j hj).trans h.symm)
          have g1 : strange (tl x) = none → V.int (((tl x).count 49 : Nat) - ((tl x).count 48 : Nat)) = d1 := fun hs => hdd.elim (fun h => h.2.1.symm) (fun ⟨j, hj, _⟩ => by rw [hj] at hs; cases hs)
          have g2 : strange (tl x) = none → V.int ((hiS (tl x)).2.1 - (hiS (tl x)).2.2) = d2 := fun hs => hdd.elim (fun h => h.2.2.1.symm) (fun ⟨j, hj, _⟩ => by rw [hj] at hs; cases hs)
          have g4 : strange (tl x) = none → V.int (idleL 0 0 (tl x)) = d4 := fun hs => hdd.elim (fun h => h.2.2.2.2.symm) (fun ⟨j, hj, _⟩ => by rw [hj] at hs; cases hs)
          obtain ⟨g, hg3, hgl⟩ : ∃ g, (strange (tl x) = none → d3 = .ref g) ∧ (strange (tl x) = none → H7 g = some (.lst ((gapsV x).map V.int))) := by
            rcases hdd with h | ⟨j, hj, _⟩
            · obtain ⟨_, _, _, ⟨g, e1, e2⟩, _⟩ := h
              exact ⟨g, fun _ => e1, fun _ => e2⟩
            · exact ⟨d, (fun hs => by rw [hj] at hs; cases hs), (fun hs => by rw [hj] at hs; cases hs)⟩
          have n3 : ∀ j, strange (tl x) = some j → d3 = .non := fun j hj => hdd.elim (fun h => by rw [h.1] at hj; cases hj) (fun ⟨_, _, _, _, h, _⟩ => h)
          -- found = [why(lambda: total(row))]
          refine ⟨hT7, fun H8 e8 T8 => why_row T.me hx (fun v _ => v = d1) (fun t1 G1 G0 v1 s0 s1 ht1 _ gd gn => ?_) (fun E Q' hq ho => ⟨_, rfl, x, rfl, hx, fun hs H' sm => hq hs _ H' sm (g1 hs), ho⟩)⟩
          have ev1 := f1 gd gn
          have e1 : ExtN H7 G1 := e8.trans (ext_same (s0.trans s1))
          have T1 : Tabs [(Pt, qL)] G1 := tabs_same T8 (s0.trans s1)
          refine ⟨by show 1 ≤ sizeLine; decide, fun pf npf => ?_⟩
          have hD1' := hD7.ext e1
          have St1 : Stg x p qq ms Pt d g pf d1 d2 d3 d4 [t1] (upd G1 pf (.lst [.ref t1])) :=
            ⟨upd_same, up_ne (e1 _ _ hd (fun _ z => by cases z)) (ne_of_none (e1 _ _ hd (fun _ z => by cases z)) npf), fun z => up_ne (e1 _ _ (hgl z) (fun _ z => by cases z)) (ne_of_none (e1 _ _ (hgl z) (fun _ z => by cases z)) npf),
              hD1'.same (same_new npf), tabs_same T1 (same_new npf), ne_of_none (e1 _ _ hd (fun _ z => by cases z)) npf, fun z => ne_of_none (e1 _ _ (hgl z) (fun _ z => by cases z)) npf, let ⟨_, e⟩ := hD1'.at; ne_of_none e npf, ne_of_none hD1'.1 npf⟩
          have tu1 : (upd G1 pf (.lst [.ref t1])) t1 = some (.tup [v1, .str (rowWord x)]) := up_ne ht1 (ne_of_none ht1 npf)
          clear ht1
          generalize (upd G1 pf (.lst [.ref t1])) = U1 at St1 tu1
          -- found.append(why(lambda: swing(row)))
          refine ⟨.ref pf, rfl, .inl ⟨rfl, _, SqL.of St1.hpf⟩, St1.htb, fun H9 e9 T9 => why_row T.me hx (fun v _ => v = d2) (fun t2 G2 G0 v2 s0 s1 ht2 _ gd gn => ?_) (fun E Q' hq ho => ⟨_, rfl, x, rfl, hx, fun hs H' sm => hq hs _ H' sm (g2 hs), ho⟩)⟩
          have ev2 := f2 gd gn
          have eA : ExtN U1 G2 := e9.trans (ext_same (s0.trans s1))
          have St2 := St1.ext eA (tabs_same T9 (s0.trans s1))
          have tu1 := tu_ext tu1 eA
          refine ⟨pf, _, _, rfl, rfl, St2.hpf, by show 1 < sizeLine; decide, ?_⟩
          have tu1 := tu_app (o := .lst ([t1].map V.ref ++ [.ref t2])) tu1 St2.hpf
          have tu2 := tu_app (o := .lst ([t1].map V.ref ++ [.ref t2])) ht2 St2.hpf
          have St2 : Stg x p qq ms Pt d g pf d1 d2 d3 d4 [t1, t2] _ := St2.app t2
          clear ht2
          generalize (upd G2 pf (.lst ([t1].map V.ref ++ [.ref t2]))) = U2 at St2 tu1 tu2
          -- found.append(why(lambda: gaps(row)))
          refine ⟨.ref pf, rfl, .inl ⟨rfl, _, SqL.of St2.hpf⟩, St2.htb, fun H10 e10 T10 => why_row T.me hx (fun v G => ∃ r, v = .ref r ∧ r ≠ pf ∧ G r = some (.lst ((gapsV x).map V.int))) (fun t3 G3 G0 v3 s0 s1 ht3 _ gd gn => ?_) (fun E Q' hq ho => ⟨_, rfl, x, rfl, hx, fun hs H' r sm nr hr => hq hs _ H' sm ⟨r, rfl, fun z => (by rw [z, e10 _ _ St2.hpf (fun _ z => by cases z)] at nr; cases nr), hr⟩, ho⟩)⟩
          have eA : ExtN U2 G3 := e10.trans (ext_same (s0.trans s1))
          have St3 := St2.ext eA (tabs_same T10 (s0.trans s1))
          have tu1 := tu_ext tu1 eA
          have tu2 := tu_ext tu2 eA
          refine ⟨pf, _, _, rfl, rfl, St3.hpf, by show 2 < sizeLine; decide, ?_⟩
          have R3 : strange (tl x) = none → ∃ r, v3 = .ref r ∧ (upd G3 pf (.lst ([t1, t2].map V.ref ++ [.ref t3]))) r = some (.lst ((gapsV x).map V.int)) ∧ r ≠ pf := fun hs => by
            obtain ⟨r, e1, e2, e3⟩ := gd hs
            exact ⟨r, e1, up_ne (s1 _ _ e3) e2, e2⟩
          have tu1 := tu_app (o := .lst ([t1, t2].map V.ref ++ [.ref t3])) tu1 St3.hpf
          have tu2 := tu_app (o := .lst ([t1, t2].map V.ref ++ [.ref t3])) tu2 St3.hpf
          have tu3 := tu_app (o := .lst ([t1, t2].map V.ref ++ [.ref t3])) ht3 St3.hpf
          have St3 : Stg x p qq ms Pt d g pf d1 d2 d3 d4 [t1, t2, t3] _ := St3.app t3
          have nv3 := gn
          clear ht3 gd gn
          generalize (upd G3 pf (.lst ([t1, t2].map V.ref ++ [.ref t3]))) = U3 at St3 tu1 tu2 tu3 R3
          -- found.append(why(lambda: idle(row)))
          refine ⟨.ref pf, rfl, .inl ⟨rfl, _, SqL.of St3.hpf⟩, St3.htb, fun H11 e11 T11 => why_row T.me hx (fun v _ => v = d4) (fun t4 G4 G0 v4 s0 s1 ht4 _ gd gn => ?_) (fun E Q' hq ho => ⟨_, rfl, x, rfl, hx, fun hs H' sm => hq hs _ H' sm (g4 hs), ho⟩)⟩
          have ev4 := f4 gd gn
          have eA : ExtN U3 G4 := e11.trans (ext_same (s0.trans s1))
          have St4 := St3.ext eA (tabs_same T11 (s0.trans s1))
          have tu1 := tu_ext tu1 eA
          have tu2 := tu_ext tu2 eA
          have tu3 := tu_ext tu3 eA
          refine ⟨pf, _, _, rfl, rfl, St4.hpf, by show 3 < sizeLine; decide, ?_⟩
          have R4 : strange (tl x) = none → ∃ r, v3 = .ref r ∧ (upd G4 pf (.lst ([t1, t2, t3].map V.ref ++ [.ref t4]))) r = some (.lst ((gapsV x).map V.int)) := fun hs => by
            obtain ⟨r, e1, e2, e3⟩ := R3 hs
            exact ⟨r, e1, up_ne (eA _ _ e2 (fun _ z => by cases z)) e3⟩
          have tu1 := tu_app (o := .lst ([t1, t2, t3].map V.ref ++ [.ref t4])) tu1 St4.hpf
          have tu2 := tu_app (o := .lst ([t1, t2, t3].map V.ref ++ [.ref t4])) tu2 St4.hpf
          have tu3 := tu_app (o := .lst ([t1, t2, t3].map V.ref ++ [.ref t4])) tu3 St4.hpf
          have tu4 := tu_app (o := .lst ([t1, t2, t3].map V.ref ++ [.ref t4])) ht4 St4.hpf
          have St4 : Stg x p qq ms Pt d g pf d1 d2 d3 d4 [t1, t2, t3, t4] _ := St4.app t4
          clear ht4 gd gn
          generalize (upd G4 pf (.lst ([t1, t2, t3].map V.ref ++ [.ref t4]))) = U4 at St4 tu1 tu2 tu3 tu4 R4
          -- like(found, [(due, word) for due in dues])
          have L1 : ∀ {n : Nat} {G : Hp}, Lk K G n d1 d1 := fun {n G} => hdd.elim (fun h => by rw [h.2.1]; exact .int _) (fun ⟨_, _, h, _⟩ => by rw [h]; exact .non)
          have L2' : ∀ {n : Nat} {G : Hp}, Lk K G n d2 d2 := fun {n G} => hdd.elim (fun h => by rw [h.2.2.1]; exact .int _) (fun ⟨_, _, _, h, _⟩ => by rw [h]; exact .non)
          have L4 : ∀ {n : Nat} {G : Hp}, Lk K G n d4 d4 := fun {n G} => hdd.elim (fun h => by rw [h.2.2.2.2]; exact .int _) (fun ⟨_, _, _, _, _, h⟩ => by rw [h]; exact .non)
          refine ⟨.ref pf, rfl, .ref d, rfl, d, rfl, ⟨_, SqL.of St4.hd⟩, fun D nD => ?_⟩
          refine lc_list (K := K) (a := d) (xs := [d1, d2, d3, d4]) (fun j G => Same U4 G ∧ ∃ us : List Addr, us.length = j ∧ G D = some (.lst (us.map V.ref)) ∧ ∀ (k : Nat) (u : Addr), us[k]? = some u → ∃ dk, ([d1, d2, d3, d4] : List V)[k]? = some dk ∧ G u = some (.tup [dk, .str (rowWord x)]))
            ⟨same_new nD, [], rfl, upd_same, fun k u z => by simp at z⟩ (fun j G _ h => SqL.of (h.1 _ _ St4.hd)) (fun j v G hv h => ?_) (fun G h => ?_)
          · obtain ⟨sG, us, hul, hGD, hu⟩ := h
            have hj : j < 4 := (List.getElem?_eq_some_iff.mp hv).1
            refine ⟨rfl, _, rfl, _, rfl, by show 2 ≤ sizeLine; decide, fun t nt => ?_⟩
            have nDt : D ≠ t := ne_of_none hGD nt
            refine ⟨_, up_ne hGD nDt, ?_, same_put (sG.trans (same_new nt)) nD, us ++ [t], ?_, ?_, fun k u hk => ?_⟩
            · rw [List.length_map]
              exact small1000 (by omega)
            · rw [List.length_append, hul]
              rfl
            · rw [upd_same, List.map_append]
              rfl
            · by_cases hlt : k < us.length
              · rw [List.getElem?_append_left hlt] at hk
                obtain ⟨dk, e1, e2⟩ := hu k u hk
                exact ⟨dk, e1, up_ne (up_ne e2 (ne_of_none e2 nt)) (ne_of e2 hGD (fun z => by cases z))⟩
              · rw [List.getElem?_append_right (by omega)] at hk
                have hk0 : k - us.length = 0 := by
                  have := (List.getElem?_eq_some_iff.mp hk).1
                  simp at this
                  omega
                rw [hk0] at hk
                obtain rfl : t = u := Option.some.inj hk
                have hkj : k = j := by omega
                rw [hkj]
                exact ⟨v, hv, up_ne upd_same (Ne.symm nDt)⟩
          · obtain ⟨sG, us, hul, hGD, hu⟩ := h
            obtain ⟨u1, u2, u3, u4, rfl⟩ : ∃ u1 u2 u3 u4, us = [u1, u2, u3, u4] := by
              match us, hul with
              | [u1, u2, u3, u4], _ => exact ⟨u1, u2, u3, u4, rfl⟩
            have hu1 : G u1 = some (.tup [d1, .str (rowWord x)]) := by
              obtain ⟨dk, e1, e2⟩ := hu 0 u1 rfl
              obtain rfl : d1 = dk := Option.some.inj e1
              exact e2
            have hu2 : G u2 = some (.tup [d2, .str (rowWord x)]) := by
              obtain ⟨dk, e1, e2⟩ := hu 1 u2 rfl
              obtain rfl : d2 = dk := Option.some.inj e1
              exact e2
            have hu3 : G u3 = some (.tup [d3, .str (rowWord x)]) := by
              obtain ⟨dk, e1, e2⟩ := hu 2 u3 rfl
              obtain rfl : d3 = dk := Option.some.inj e1
              exact e2
            have hu4 : G u4 = some (.tup [d4, .str (rowWord x)]) := by
              obtain ⟨dk, e1, e2⟩ := hu 3 u4 rfl
              obtain rfl : d4 = dk := Option.some.inj e1
              exact e2
            have L3 : Lk K G 1 v3 d3 := by
              cases hs : strange (tl x) with
              | none =>
                obtain ⟨r, e1, e2⟩ := R4 hs
                rw [e1, hg3 hs]
                exact lk_ints (sG _ _ e2) (sG _ _ (St4.hg hs)) (gaps_len hx)
              | some j =>
                rw [nv3 j hs, n3 j hs]
                exact .non
            refine ⟨.ref pf, .ref D, rfl, .lst (SqL.of (sG _ _ St4.hpf)) (SqL.of hGD) rfl (by show 4 ≤ 1001; decide) (fun k xk yk hxk hyk => ?_), fun G2 sG2 => ⟨true, rfl, iteF ?_⟩⟩
            · match k, hxk, hyk with
              | 0, hxk, hyk =>
                obtain rfl : V.ref t1 = xk := Option.some.inj hxk
                obtain rfl : V.ref u1 = yk := Option.some.inj hyk
                exact lk_pair (sG _ _ tu1) hu1 (by rw [ev1]; exact L1)
              | 1, hxk, hyk =>
                obtain rfl : V.ref t2 = xk := Option.some.inj hxk
                obtain rfl : V.ref u2 = yk := Option.some.inj hyk
                exact lk_pair (sG _ _ tu2) hu2 (by rw [ev2]; exact L2')
              | 2, hxk, hyk =>
                obtain rfl : V.ref t3 = xk := Option.some.inj hxk
                obtain rfl : V.ref u3 = yk := Option.some.inj hyk
                exact lk_pair (sG _ _ tu3) hu3 L3
              | 3, hxk, hyk =>
                obtain rfl : V.ref t4 = xk := Option.some.inj hxk
                obtain rfl : V.ref u4 = yk := Option.some.inj hyk
                exact lk_pair (sG _ _ tu4) hu4 (by rw [ev4]; exact L4)
              | _ + 4, hxk, _ => simp at hxk
            · have St5 := (St4.same sG).same sG2
              clear sG2 sG hu hGD
              -- late
              refine ⟨fun σ G => ∃ z : Str, σ = [some (.ref a), some (.ref p), some (.int (0 + (i : Int))), y3', some (.str (rowWord x)), some (.ref d), some (.ref pf), y7, some (.str z), some (.str y), some (.str x)] ∧
                  ((strange (tl x) = none ∧ strange (tl y) = none ∧ z = "") ∨ ∃ j, Rz2 x y j ∧ z = (Str.ofString "badrow ") ++ (toString (j : Int) : String)) ∧ Stg x p qq ms Pt d g pf d1 d2 d3 d4 [t1, t2, t3, t4] G, ?_, ?_⟩
              · refine ⟨_, rfl, rfl, _, rfl, ?_⟩
                cases hs : strange (tl x) with
                | none =>
                  rw [decide_eq_true (by rw [word_none hs])]
                  refine iteF ⟨_, rfl, y, rfl, hy, fun G3 s3 => ⟨rowWord y, rfl, ?_, St5.same s3⟩⟩
                  cases hs2 : strange (tl y) with
                  | none => exact .inl ⟨rfl, rfl, word_none hs2⟩
                  | some j => exact .inr ⟨j, .inr ⟨hs, hs2⟩, word_some hs2⟩
                | some j =>
                  rw [decide_eq_false (by rw [word_some hs]; exact bad_ne j)]
                  exact iteT ⟨_, rfl, rowWord x, rfl, .inr ⟨j, .inl hs, word_some hs⟩, St5⟩
              · rintro σ G3 ⟨z, rfl, hz3, St6⟩
                -- due
                refine ⟨fun σ G => ∃ e : V, σ = [some (.ref a), some (.ref p), some (.int (0 + (i : Int))), y3', some (.str (rowWord x)), some (.ref d), some (.ref pf), some e, some (.str z), some (.str y), some (.str x)] ∧
                    ((strange (tl x) = none ∧ strange (tl y) = none ∧ z = "" ∧ e = .bl (inStr y x)) ∨ ∃ j, Rz2 x y j ∧ z = (Str.ofString "badrow ") ++ (toString (j : Int) : String) ∧ e = .non) ∧ Stg x p qq ms Pt d g pf d1 d2 d3 d4 [t1, t2, t3, t4] G, ?_, ?_⟩
                · refine ⟨_, rfl, rfl, _, rfl, ?_⟩
                  rcases hz3 with ⟨h1, h2, h3⟩ | ⟨j, h1, h3⟩
                  · rw [decide_eq_true (by rw [h3])]
                    exact iteF ⟨_, rfl, _, rfl, y, x, rfl, rfl, .bl (inStr y x), rfl, .inl ⟨h1, h2, h3, rfl⟩, St6⟩
                  · rw [decide_eq_false (by rw [h3]; exact bad_ne j)]
                    exact iteT ⟨.non, rfl, .inr ⟨j, h1, h3, rfl⟩, St6⟩
                · rintro σ G4 ⟨e, rfl, hz4, St7⟩
                  -- like(why(lambda: holds(row, piece)), (due, late))
                  have last : ∀ G, Stg x p qq ms Pt d g pf d1 d2 d3 d4 [t1, t2, t3, t4] G →
                      (∃ y2 y3 y4 y5 y6 y7 y8 y9 y10, ([some (.ref a), some (.ref p), some (.int (0 + (i : Int))), y3', some (.str (rowWord x)), some (.ref d), some (.ref pf), some e, some (.str z), some (.str y), some (.str x)] : L2.St) = [some (.ref a), some (.ref p), y2, y3, y4, y5, y6, y7, y8, y9, y10]) ∧ Dr p qq ms G ∧ Tabs [(Pt, qL)] G :=
                    fun G S => ⟨⟨_, _, _, _, _, _, _, _, _, rfl⟩, S.hdr, S.htb⟩
                  have i1 : ∀ {z : Str} {j : Nat}, (tl z).length ≤ 1000 → strange (tl z) = some j → j ≤ 100000 := fun {z j} h1 h2 => by
                    have := strange_lt h2
                    omega
                  refine ⟨fun σ G => σ = [some (.ref a), some (.ref p), some (.int (0 + (i : Int))), y3', some (.str (rowWord x)), some (.ref d), some (.ref pf), some e, some (.str z), some (.str y), some (.str x)] ∧ Stg x p qq ms Pt d g pf d1 d2 d3 d4 [t1, t2, t3, t4] G, ?_, ?_⟩
                  · refine ⟨St7.htb, fun G5 e5 T5 => why_gen T.me (Rz2 x y) (fun v _ => strange (tl x) = none ∧ strange (tl y) = none ∧ v = .bl (inStr y x)) (fun t G6 G0 v s0 s1 ht _ gd => ?_) (fun t G6 j hj s1 ht _ => ?_)
                      (fun E Q' hq ho => ⟨_, rfl, _, rfl, x, y, rfl, hx, hy, fun hs hs2 H' sm => hq _ H' sm ⟨hs, hs2, rfl⟩, fun j hs dd H' sm _ hdd' => ho j dd H' (.inl hs) (i1 hx hs) sm hdd', fun hs0 j hs dd H' sm _ hdd' => ho j dd H' (.inr ⟨hs0, hs⟩) (i1 hy hs) sm hdd'⟩)⟩
                    all_goals
                      refine ⟨_, rfl, _, rfl, by show 2 ≤ sizeLine; decide, fun u nu => ?_⟩
                    · have St8 := (St7.ext (e5.trans (ext_same (s0.trans s1))) (tabs_same T5 (s0.trans s1))).same (same_new (o := .tup [e, .str z]) nu)
                      obtain ⟨g1', g2', gv⟩ := gd
                      have hze : z = "" ∧ e = .bl (inStr y x) := hz4.elim (fun h => h.2.2) (fun ⟨j, hj, _⟩ => by
                        rcases hj with hj | ⟨_, hj⟩
                        · rw [g1'] at hj
                          cases hj
                        · rw [g2'] at hj
                          cases hj)
                      refine ⟨_, _, rfl, lk_pair (z := z) (v := v) (e := e) ?_ upd_same ?_, fun G7 s7 => ⟨true, rfl, iteF ?_⟩⟩
                      · rw [hze.1]
                        exact up_ne ht (ne_of_none ht nu)
                      · rw [gv, hze.2]
                        exact .bl _
                      · exact ⟨rfl, St8.same s7⟩
                    · have St8 := (St7.ext (e5.trans (ext_same s1)) (tabs_same T5 s1)).same (same_new (o := .tup [e, .str z]) nu)
                      have hze : z = (Str.ofString "badrow ") ++ (toString (j : Int) : String) ∧ e = .non := hz4.elim (fun ⟨h1, h2, _⟩ => by
                        rcases hj with hj | ⟨_, hj⟩
                        · rw [h1] at hj
                          cases hj
                        · rw [h2] at hj
                          cases hj) (fun ⟨k, hk, e1, e2⟩ => by
                        rw [Rz2.eq hj hk]
                        exact ⟨e1, e2⟩)
                      refine ⟨_, _, rfl, lk_pair (z := z) (v := .non) (e := e) ?_ upd_same ?_, fun G7 s7 => ⟨true, rfl, iteF ?_⟩⟩
                      · rw [hze.1]
                        exact up_ne ht (ne_of_none ht nu)
                      · rw [hze.2]
                        exact .non
                      · exact ⟨rfl, St8.same s7⟩
                  · rintro σ G5 ⟨rfl, St8⟩
                    refine ⟨_, rfl, rfl, _, rfl, ?_⟩
                    cases hs : strange (tl x) with
                    | some j =>
                      rw [decide_eq_false (by rw [word_some hs]; exact bad_ne j)]
                      exact iteF (last G5 St8)
                    | none =>
                      rw [decide_eq_true (by rw [word_none hs])]
                      have no : ∀ (G : Hp), rowOut C x G E0 := fun G j hj => by
                        rw [hs] at hj
                        cases hj
                      refine iteT ⟨_, rfl, x, rfl, hx, fun _ G6 r s6 nr hr6 => ⟨.inl ⟨rfl, _, SqL.of hr6⟩, r, _, _, rfl, rfl, hr6, ?_, ?_⟩, no _⟩
                      · rw [List.length_map]
                        exact Nat.lt_of_le_of_lt (gaps_len hx) (by decide)
                      · have St9 := St8.same (same_put (o := .lst ((gapsV x).map V.int ++ [.int 7])) s6 nr)
                        refine ⟨_, rfl, x, rfl, hx, fun _ G7 r2 s7 _ hr7 => ?_, no _⟩
                        have St10 := St9.same s7
                        refine ⟨_, rfl, d, _, 2, d3, rfl, rfl, SqL.of St10.hd, rfl, ?_⟩
                        refine ⟨_, _, rfl, ?_, fun G8 s8 => ⟨true, rfl, iteF (last G8 (St10.same s8))⟩⟩
                        rw [hg3 hs]
                        exact lk_ints hr7 (St10.hg hs) (gaps_len hx)
    · exact q H2
end
end K01

set_option Elab.async false
set_option linter.all false
set_option maxRecDepth 100000
set_option maxHeartbeats 4000000
namespace K01
open PySem PySem.Spec PyProof.Rows L2 Pw TL
section
variable {w : World} {K : PySem.W.Frag} {mg : Str → Option Value} {base : Heap}
/-! BadRow's __init__ -/
abbrev sI1 : Stmt := inClass (topS 2) 0
theorem err_row {C fI cc cda : Addr} {kV doc pm ct oc : Value} {an od : Option Addr} {osl : Array (Option Value)} (T : SupC PySem.Challenge.pw_pulsewright_k01_rows_by_themselves K mg C fI cc cda "at")
    (lk : K.lookup fI = some ⟨oc, od, .func (PySem.W.ksFn "__init__" "BadRow.__init__" (defArgs sI1) (defBody sI1) (defScope sI1) .none kV doc pm an (.ref cda) ct cc), osl⟩) (hcd : PySem.W.codeIn K (.ref cda) "BadRow.__init__" = true)
    (gC : mg "BadRow" = some (.ref C)) (iC : PySem.W.findIn K (.ref C) "__init__" = some (some (.ref fI))) (tI : PySem.W.typeIn K (.ref fI) = some (.type "function")) :
    ErrOk PySem.Challenge.pw_pulsewright_k01_rows_by_themselves w K mg base "BadRow" "at" C okInt := by
  refine ⟨T.oex, gC, fI, _, fn_sup (k := 0) (by decide) (by decide) (by decide) (by decide) (by decide) T rfl lk hcd (fun X hN hS => ?_) (fun env => rfl), Binds.all (fun us hl => match us, hl with | [_, _], _ => rfl), iC, tI⟩
  have h1 : X.N[1]? = some (Str.ofString "at") := by
    rw [hN]
    rfl
  have h2 : Vis X.env.scope (Str.ofString "at") := by
    rw [hS]
    exact .inl rfl
  refine ⟨_, pe_joined (PJ.cons pe_str (PJ.cons (pe_fmt (pe_var (i := 1) h1 h2)) PJ.nil)), fun a v H Q hv hq => ?_⟩
  obtain ⟨i, rfl, hi⟩ := hv
  refine ⟨_, rfl, by decide, _, rfl, .inr ⟨(i : Int), rfl, small_log hi, _, rfl, ?_, hq _⟩⟩
  rw [len_tl, tl_append, List.length_append, ← len_tl, ← len_tl]
  exact Nat.le_trans (Nat.add_le_add (by decide : _ ≤ 40) (int_text_len_1921 (small_log hi))) (by decide)
theorem exm_own {K : PySem.W.Frag} {S : Addr} (h1 : PySem.W.subIn K (.ref S) (.type "BaseException") = some true) (h2 : PySem.W.isClsIn K S = true) (h3 : PySem.W.typeIn K (.ref S) = some (.type "type")) (h4 : PySem.W.subIn K (.ref S) (.ref S) = some true) : PySem.W.exmOne K (.ref S) (.ref S) = some true := by
  have a1 : (PySem.W.subIn K (.ref S) (.type "BaseException") == some true) = true := by rw [h1] <;> rfl
  have a2 : ((PySem.W.clsIn K S).isSome && PySem.W.typeIn K (.ref S) == some (.type "type")) = true := by
    have a3 : (PySem.W.clsIn K S).isSome = true := h2
    rw [a3, h3] <;> rfl
  unfold PySem.W.exmOne
  first
    | (rw [if_pos a1]; show (if ((PySem.W.clsIn K S).isSome && PySem.W.typeIn K (.ref S) == some (.type "type")) = true then PySem.W.subIn K (.ref S) (.ref S) else none) = some true; rw [if_pos a2]; exact h4)
    | simp [a1, a2, h4]
end
end K01

set_option Elab.async false
set_option linter.all false
set_option maxRecDepth 100000
set_option maxHeartbeats 4000000
namespace K01
open PySem PySem.Spec PyProof.Rows L2 Pw TL
theorem all_mk {w : World} {K : PySem.W.Frag} {h : Heap} {mg : Str → Option Value} {fa : Addr} (X : K.In h) (G : h.Ns mainGlobals mg) (hfa : mg "law" = some (.ref fa))
    {fFS fCR fSA fTO fSW fGA fID fHO fOP fPU fNU fLK fRO fBA fSU fWH fOR fRW fLS fLG fLI fLW C fI cc cda c Pt C2 C3 C4 C5 C6 C7 C8 : Addr}
    {odFS anFS odCR anCR odSA anSA odTO anTO odSW anSW odGA anGA odID anID odHO anHO odOP anOP odPU anPU odNU anNU odLK anLK odRO anRO odBA anBA odSU anSU odWH anWH odOR anOR odRW anRW odLS anLS odLG anLG odLI anLI odLW anLW odI anI cdd cld dd : Option Addr} {slFS slCR slSA slTO slSW slGA slID slHO slOP slPU slNU slLK slRO slBA slSU slWH slOR slRW slLS slLG slLI slLW slI ccs csl : Array (Option Value)}
    {ocFS kVFS dcFS pmFS ctFS ocCR kVCR dcCR pmCR ctCR ocSA kVSA dcSA pmSA ctSA ocTO kVTO dcTO pmTO ctTO ocSW kVSW dcSW pmSW ctSW ocGA kVGA dcGA pmGA ctGA ocID kVID dcID pmID ctID ocHO kVHO dcHO pmHO ctHO ocOP kVOP dcOP pmOP ctOP ocPU kVPU dcPU pmPU ctPU ocNU kVNU dcNU pmNU ctNU ocLK kVLK dcLK pmLK ctLK ocRO kVRO dcRO pmRO ctRO ocBA kVBA dcBA pmBA ctBA ocSU kVSU dcSU pmSU ctSU ocWH kVWH dcWH pmWH ctWH ocOR kVOR dcOR pmOR ctOR ocRW kVRW dcRW pmRW ctRW ocLS kVLS dcLS pmLS ctLS ocLG kVLG dcLG pmLG ctLG ocLI kVLI dcLI pmLI ctLI ocLW kVLW dcLW pmLW ctLW cdFS cdCR cdSA cdTO cdSW cdGA cdID cdHO cdOP cdPU cdNU cdLK cdRO cdBA cdSU cdWH cdOR cdRW cdLS cdLG cdLI ocI kVI dcI pmI ctI ccl cl : Value}
    {nm q file : Str} {N : Addr} {bs bm sub : List Value} {sn : List Str} {ab : Bool} {col : Option Bool} {k0 k1 k2 k3 k5 : Option Value} {vsc : Array Value} {tf : Tok}
    (aFS : PySem.W.nsIn K mainGlobals "first_stranger" = some (some (.ref fFS)))
    (lFS : K.lookup fFS = some ⟨ocFS, odFS, .func (PySem.W.fnOf "first_stranger" "first_stranger" (defArgs sFS) (defBody sFS) (defScope sFS) .none kVFS dcFS pmFS anFS cdFS ctFS), slFS⟩)
    (cFS : PySem.W.codeIn K cdFS "first_stranger" = true)
    (kFS : PySem.W.keepIn K (.ref fFS) = true)
    (aCR : PySem.W.nsIn K mainGlobals "check_row" = some (some (.ref fCR)))
    (lCR : K.lookup fCR = some ⟨ocCR, odCR, .func (PySem.W.fnOf "check_row" "check_row" (defArgs sCR) (defBody sCR) (defScope sCR) .none kVCR dcCR pmCR anCR cdCR ctCR), slCR⟩)
    (cCR : PySem.W.codeIn K cdCR "check_row" = true)
    (kCR : PySem.W.keepIn K (.ref fCR) = true)
    (aSA : PySem.W.nsIn K mainGlobals "swings_along" = some (some (.ref fSA)))
    (lSA : K.lookup fSA = some ⟨ocSA, odSA, .func (PySem.W.fnOf "swings_along" "swings_along" (defArgs sSA) (defBody sSA) (defScope sSA) .none kVSA dcSA pmSA anSA cdSA ctSA), slSA⟩)
    (cSA : PySem.W.codeIn K cdSA "swings_along" = true)
    (kSA : PySem.W.keepIn K (.ref fSA) = true)
    (aTO : PySem.W.nsIn K mainGlobals "total" = some (some (.ref fTO)))
    (lTO : K.lookup fTO = some ⟨ocTO, odTO, .func (PySem.W.fnOf "total" "total" (defArgs sTO) (defBody sTO) (defScope sTO) .none kVTO dcTO pmTO anTO cdTO ctTO), slTO⟩)
    (cTO : PySem.W.codeIn K cdTO "total" = true)
    (kTO : PySem.W.keepIn K (.ref fTO) = true)
    (aSW : PySem.W.nsIn K mainGlobals "swing" = some (some (.ref fSW)))
    (lSW : K.lookup fSW = some ⟨ocSW, odSW, .func (PySem.W.fnOf "swing" "swing" (defArgs sSW) (defBody sSW) (defScope sSW) .none kVSW dcSW pmSW anSW cdSW ctSW), slSW⟩)
    (cSW : PySem.W.codeIn K cdSW "swing" = true)
    (kSW : PySem.W.keepIn K (.ref fSW) = true)
    (aGA : PySem.W.nsIn K mainGlobals "gaps" = some (some (.ref fGA)))
    (lGA : K.lookup fGA = some ⟨ocGA, odGA, .func (PySem.W.fnOf "gaps" "gaps" (defArgs sGA) (defBody sGA) (defScope sGA) .none kVGA dcGA pmGA anGA cdGA ctGA), slGA⟩)
    (cGA : PySem.W.codeIn K cdGA "gaps" = true)
    (kGA : PySem.W.keepIn K (.ref fGA) = true)
    (aID : PySem.W.nsIn K mainGlobals "idle" = some (some (.ref fID)))
    (lID : K.lookup fID = some ⟨ocID, odID, .func (PySem.W.fnOf "idle" "idle" (defArgs sID) (defBody sID) (defScope sID) .none kVID dcID pmID anID cdID ctID), slID⟩)
    (cID : PySem.W.codeIn K cdID "idle" = true)
    (kID : PySem.W.keepIn K (.ref fID) = true)
    (aHO : PySem.W.nsIn K mainGlobals "holds" = some (some (.ref fHO)))
    (lHO : K.lookup fHO = some ⟨ocHO, odHO, .func (PySem.W.fnOf "holds" "holds" (defArgs sHO) (defBody sHO) (defScope sHO) .none kVHO dcHO pmHO anHO cdHO ctHO), slHO⟩)
    (cHO : PySem.W.codeIn K cdHO "holds" = true)
    (kHO : PySem.W.keepIn K (.ref fHO) = true)
    (aOP : PySem.W.nsIn K mainGlobals "_law_open" = some (some (.ref fOP)))
    (lOP : K.lookup fOP = some ⟨ocOP, odOP, .func (PySem.W.fnOf "_law_open" "_law_open" (defArgs sOP) (defBody sOP) (defScope sOP) .none kVOP dcOP pmOP anOP cdOP ctOP), slOP⟩)
    (cOP : PySem.W.codeIn K cdOP "_law_open" = true)
    (kOP : PySem.W.keepIn K (.ref fOP) = true)
    (aPU : PySem.W.nsIn K mainGlobals "_law_pull" = some (some (.ref fPU)))
    (lPU : K.lookup fPU = some ⟨ocPU, odPU, .func (PySem.W.fnOf "_law_pull" "_law_pull" (defArgs sPU) (defBody sPU) (defScope sPU) .none kVPU dcPU pmPU anPU cdPU ctPU), slPU⟩)
    (cPU : PySem.W.codeIn K cdPU "_law_pull" = true)
    (kPU : PySem.W.keepIn K (.ref fPU) = true)
    (aNU : PySem.W.nsIn K mainGlobals "_law_num" = some (some (.ref fNU)))
    (lNU : K.lookup fNU = some ⟨ocNU, odNU, .func (PySem.W.fnOf "_law_num" "_law_num" (defArgs sNU) (defBody sNU) (defScope sNU) .none kVNU dcNU pmNU anNU cdNU ctNU), slNU⟩)
    (cNU : PySem.W.codeIn K cdNU "_law_num" = true)
    (kNU : PySem.W.keepIn K (.ref fNU) = true)
    (aLK : PySem.W.nsIn K mainGlobals "_law_like" = some (some (.ref fLK)))
    (lLK : K.lookup fLK = some ⟨ocLK, odLK, .func (PySem.W.fnOf "_law_like" "_law_like" (defArgs sLK) (defBody sLK) (defScope sLK) .none kVLK dcLK pmLK anLK cdLK ctLK), slLK⟩)
    (cLK : PySem.W.codeIn K cdLK "_law_like" = true)
    (kLK : PySem.W.keepIn K (.ref fLK) = true)
    (aRO : PySem.W.nsIn K mainGlobals "_law_row" = some (some (.ref fRO)))
    (lRO : K.lookup fRO = some ⟨ocRO, odRO, .func (PySem.W.fnOf "_law_row" "_law_row" (defArgs sRO) (defBody sRO) (defScope sRO) .none kVRO dcRO pmRO anRO cdRO ctRO), slRO⟩)
    (cRO : PySem.W.codeIn K cdRO "_law_row" = true)
    (kRO : PySem.W.keepIn K (.ref fRO) = true)
    (aBA : PySem.W.nsIn K mainGlobals "_law_bad_at" = some (some (.ref fBA)))
    (lBA : K.lookup fBA = some ⟨ocBA, odBA, .func (PySem.W.fnOf "_law_bad_at" "_law_bad_at" (defArgs sBA) (defBody sBA) (defScope sBA) .none kVBA dcBA pmBA anBA cdBA ctBA), slBA⟩)
    (cBA : PySem.W.codeIn K cdBA "_law_bad_at" = true)
    (kBA : PySem.W.keepIn K (.ref fBA) = true)
    (aSU : PySem.W.nsIn K mainGlobals "_law_sums" = some (some (.ref fSU)))
    (lSU : K.lookup fSU = some ⟨ocSU, odSU, .func (PySem.W.fnOf "_law_sums" "_law_sums" (defArgs sSU) (defBody sSU) (defScope sSU) .none kVSU dcSU pmSU anSU cdSU ctSU), slSU⟩)
    (cSU : PySem.W.codeIn K cdSU "_law_sums" = true)
    (kSU : PySem.W.keepIn K (.ref fSU) = true)
    (aWH : PySem.W.nsIn K mainGlobals "_law_why" = some (some (.ref fWH)))
    (lWH : K.lookup fWH = some ⟨ocWH, odWH, .func (PySem.W.fnOf "_law_why" "_law_why" (defArgs sWH) (defBody sWH) (defScope sWH) .none kVWH dcWH pmWH anWH cdWH ctWH), slWH⟩)
    (cWH : PySem.W.codeIn K cdWH "_law_why" = true)
    (kWH : PySem.W.keepIn K (.ref fWH) = true)
    (aOR : PySem.W.nsIn K mainGlobals "_law_odd_row" = some (some (.ref fOR)))
    (lOR : K.lookup fOR = some ⟨ocOR, odOR, .func (PySem.W.fnOf "_law_odd_row" "_law_odd_row" (defArgs sOR) (defBody sOR) (defScope sOR) .none kVOR dcOR pmOR anOR cdOR ctOR), slOR⟩)
    (cOR : PySem.W.codeIn K cdOR "_law_odd_row" = true)
    (kOR : PySem.W.keepIn K (.ref fOR) = true)
    (aRW : PySem.W.nsIn K mainGlobals "_law_row_word" = some (some (.ref fRW)))
    (lRW : K.lookup fRW = some ⟨ocRW, odRW, .func (PySem.W.fnOf "_law_row_word" "_law_row_word" (defArgs sRW) (defBody sRW) (defScope sRW) .none kVRW dcRW pmRW anRW cdRW ctRW), slRW⟩)
    (cRW : PySem.W.codeIn K cdRW "_law_row_word" = true)
    (kRW : PySem.W.keepIn K (.ref fRW) = true)
    (aLS : PySem.W.nsIn K mainGlobals "_law_swing" = some (some (.ref fLS)))
    (lLS : K.lookup fLS = some ⟨ocLS, odLS, .func (PySem.W.fnOf "_law_swing" "_law_swing" (defArgs sLS) (defBody sLS) (defScope sLS) .none kVLS dcLS pmLS anLS cdLS ctLS), slLS⟩)
    (cLS : PySem.W.codeIn K cdLS "_law_swing" = true)
    (kLS : PySem.W.keepIn K (.ref fLS) = true)
    (aLG : PySem.W.nsIn K mainGlobals "_law_gaps" = some (some (.ref fLG)))
    (lLG : K.lookup fLG = some ⟨ocLG, odLG, .func (PySem.W.fnOf "_law_gaps" "_law_gaps" (defArgs sLG) (defBody sLG) (defScope sLG) .none kVLG dcLG pmLG anLG cdLG ctLG), slLG⟩)
    (cLG : PySem.W.codeIn K cdLG "_law_gaps" = true)
    (kLG : PySem.W.keepIn K (.ref fLG) = true)
    (aLI : PySem.W.nsIn K mainGlobals "_law_idle" = some (some (.ref fLI)))
    (lLI : K.lookup fLI = some ⟨ocLI, odLI, .func (PySem.W.fnOf "_law_idle" "_law_idle" (defArgs sLI) (defBody sLI) (defScope sLI) .none kVLI dcLI pmLI anLI cdLI ctLI), slLI⟩)
    (cLI : PySem.W.codeIn K cdLI "_law_idle" = true)
    (kLI : PySem.W.keepIn K (.ref fLI) = true)
    (aLW : PySem.W.nsIn K mainGlobals "law" = some (some (.ref fLW)))
    (lLW : K.lookup fLW = some ⟨ocLW, odLW, .func (PySem.W.fnOf "law" "law" (defArgs sLW) (defBody sLW) (defScope sLW) .none kVLW dcLW pmLW anLW (.ref c) ctLW), slLW⟩)
    (cLW : PySem.W.codeIn K (.ref c) "law" = true)
    (kLW : PySem.W.keepIn K (.ref fLW) = true)
    (z_isi : PySem.W.nsIn K mainGlobals "isinstance" = some none)
    (z_int : PySem.W.nsIn K mainGlobals "int" = some none)
    (z_bool : PySem.W.nsIn K mainGlobals "bool" = some none)
    (z_str : PySem.W.nsIn K mainGlobals "str" = some none)
    (z_tup : PySem.W.nsIn K mainGlobals "tuple" = some none)
    (z_lst : PySem.W.nsIn K mainGlobals "list" = some none)
    (z_len : PySem.W.nsIn K mainGlobals "len" = some none)
    (z_all : PySem.W.nsIn K mainGlobals "all" = some none)
    (z_rng : PySem.W.nsIn K mainGlobals "range" = some none)
    (z_max : PySem.W.nsIn K mainGlobals "max" = some none)
    (z_min : PySem.W.nsIn K mainGlobals "min" = some none)
    (z_abs : PySem.W.nsIn K mainGlobals "abs" = some none)
    (z_enu : PySem.W.nsIn K mainGlobals "enumerate" = some none)
    (z_sup : PySem.W.nsIn K mainGlobals "super" = some none)
    (aC : PySem.W.nsIn K mainGlobals "BadRow" = some (some (.ref C)))
    (aC2 : PySem.W.nsIn K mainGlobals "BadRule" = some (some (.ref C2)))
    (aC3 : PySem.W.nsIn K mainGlobals "BadPace" = some (some (.ref C3)))
    (aC4 : PySem.W.nsIn K mainGlobals "TooWide" = some (some (.ref C4)))
    (aC5 : PySem.W.nsIn K mainGlobals "Unlawful" = some (some (.ref C5)))
    (aC6 : PySem.W.nsIn K mainGlobals "BadLength" = some (some (.ref C6)))
    (aC7 : PySem.W.nsIn K mainGlobals "BadText" = some (some (.ref C7)))
    (aC8 : PySem.W.nsIn K mainGlobals "PulseError" = some (some (.ref C8)))
    (xC : K.lookup C = some (excClassObj nm q C N bs bm true sn sub ab col dd k0 k1 k2 k3 k5 "ValueError.__new__"))
    (xbm : PySem.HandSPX.refsVE bm = true)
    (sa : PySem.W.findIn K (.ref C) "__setattr__" = some (some (.builtin "object.__setattr__")))
    (ga : PySem.W.findIn K (.ref C) "__getattribute__" = some (some (.builtin "BaseException.__getattribute__")))
    (gg : PySem.W.findIn K (.ref C) "__getattr__" = some none)
    (nat : PySem.W.findIn K (.ref C) "at" = some none)
    (eC : PySem.W.subIn K (.ref C) (.type "BaseException") = some true)
    (vC : PySem.W.subIn K (.ref C) (.type "ValueError") = some true)
    (tC : PySem.W.typeIn K (.ref C) = some (.type "type"))
    (hC : PySem.W.hasDictIn K C = true)
    (iC : PySem.W.isClsIn K C = true)
    (sC : PySem.W.subIn K (.ref C) (.ref C) = some true)
    (mC : PySem.W.mroIn K C (.ref C) = some true)
    (kC : PySem.W.keepIn K (.ref C) = true)
    (aI : PySem.W.findIn K (.ref C) "__init__" = some (some (.ref fI)))
    (tI : PySem.W.typeIn K (.ref fI) = some (.type "function"))
    (lI : K.lookup fI = some ⟨ocI, odI, .func (PySem.W.ksFn "__init__" "BadRow.__init__" (defArgs sI1) (defBody sI1) (defScope sI1) .none kVI dcI pmI anI (.ref cda) ctI cc), slI⟩)
    (cI : PySem.W.codeIn K (.ref cda) "BadRow.__init__" = true)
    (lcd : K.lookup cda = some ⟨ccl, cdd, .fields vsc, ccs⟩)
    (lcc : K.lookup cc = some ⟨cl, cld, .cell (some (.ref C)), csl⟩)
    (sup : PySem.W.ks_superIn K C C "__init__" = some (some (.builtin "ValueError.__init__")))
    (opq : PySem.W.nsIn K cStatics "thirdparty.any" = some none)
    (vs2 : vsc[2]? = some (.str file tf))
    (fil : ((PySem.Challenge.pw_pulsewright_k01_rows_by_themselves.main.file : Str) == file) = true)
    (tps : (PySem.Challenge.pw_pulsewright_k01_rows_by_themselves.main.scope.names.lookup ("super" : Str)).isSome = false)
    (tab : h.get? Pt = some { cls := .none, data := .fields #[] })
    (nPt : K.lookup Pt = none)
    (chd : PySem.W.codeHdIn K c Pt = true)
    : LamX.LawAtS PySem.Challenge.rw_pulsewright_k01_rows_by_themselves w K CX0 7 63 "_law_script" mg fa h := by
  have e := hfa.symm.trans (PySem.W.mg_of X G aLW)
  cases e
  have B : BN mg := ⟨PySem.W.mg_none_of X G z_isi, PySem.W.mg_none_of X G z_int, PySem.W.mg_none_of X G z_bool, PySem.W.mg_none_of X G z_str, PySem.W.mg_none_of X G z_tup, PySem.W.mg_none_of X G z_lst, PySem.W.mg_none_of X G z_len, PySem.W.mg_none_of X G z_all, PySem.W.mg_none_of X G z_rng, PySem.W.mg_none_of X G z_max, PySem.W.mg_none_of X G z_min, PySem.W.mg_none_of X G z_abs, PySem.W.mg_none_of X G z_enu⟩
  have FFS := fun_mk (st := sFS) lFS cFS kFS
  have FCR := fun_mk (st := sCR) lCR cCR kCR
  have FSA := fun_mk (st := sSA) lSA cSA kSA
  have FTO := fun_mk (st := sTO) lTO cTO kTO
  have FSW := fun_mk (st := sSW) lSW cSW kSW
  have FGA := fun_mk (st := sGA) lGA cGA kGA
  have FID := fun_mk (st := sID) lID cID kID
  have FHO := fun_mk (st := sHO) lHO cHO kHO
  have FOP := fun_mk (st := sOP) lOP cOP kOP
  have FPU := fun_mk (st := sPU) lPU cPU kPU
  have FNU := fun_mk (st := sNU) lNU cNU kNU
  have FLK := fun_mk (st := sLK) lLK cLK kLK
  have FRO := fun_mk (st := sRO) lRO cRO kRO
  have FBA := fun_mk (st := sBA) lBA cBA kBA
  have FSU := fun_mk (st := sSU) lSU cSU kSU
  have FOR := fun_mk (st := sOR) lOR cOR kOR
  have FRW := fun_mk (st := sRW) lRW cRW kRW
  have FLS := fun_mk (st := sLS) lLS cLS kLS
  have FLG := fun_mk (st := sLG) lLG cLG kLG
  have FLI := fun_mk (st := sLI) lLI cLI kLI
  have bFS := FFS.binds (ps := ["text"]) fun _ _ _ _ _ _ us hl => match us, hl with | [_], _ => rfl
  have bCR := FCR.binds (ps := ["row"]) fun _ _ _ _ _ _ us hl => match us, hl with | [_], _ => rfl
  have bSA := FSA.binds (ps := ["row"]) fun _ _ _ _ _ _ us hl => match us, hl with | [_], _ => rfl
  have bTO := FTO.binds (ps := ["row"]) fun _ _ _ _ _ _ us hl => match us, hl with | [_], _ => rfl
  have bSW := FSW.binds (ps := ["row"]) fun _ _ _ _ _ _ us hl => match us, hl with | [_], _ => rfl
  have bGA := FGA.binds (ps := ["row"]) fun _ _ _ _ _ _ us hl => match us, hl with | [_], _ => rfl
  have bID := FID.binds (ps := ["row"]) fun _ _ _ _ _ _ us hl => match us, hl with | [_], _ => rfl
  have bHO := FHO.binds (ps := ["row", "piece"]) fun _ _ _ _ _ _ us hl => match us, hl with | [_, _], _ => rfl
  have bOP := FOP.binds (ps := ["_law_script"]) fun _ _ _ _ _ _ us hl => match us, hl with | [_], _ => rfl
  have bPU := FPU.binds (ps := ["_law_draw", "_law_total_of"]) fun _ _ _ _ _ _ us hl => match us, hl with | [_, _], _ => rfl
  have bNU := FNU.binds (ps := ["_law_found"]) fun _ _ _ _ _ _ us hl => match us, hl with | [_], _ => rfl
  have bLK := FLK.binds (ps := ["_law_found", "_law_due"]) fun _ _ _ _ _ _ us hl => match us, hl with | [_, _], _ => rfl
  have bRO := FRO.binds (ps := ["_law_draw", "_law_many"]) fun _ _ _ _ _ _ us hl => match us, hl with | [_, _], _ => rfl
  have bBA := FBA.binds (ps := ["_law_text"]) fun _ _ _ _ _ _ us hl => match us, hl with | [_], _ => rfl
  have bSU := FSU.binds (ps := ["_law_row_here"]) fun _ _ _ _ _ _ us hl => match us, hl with | [_], _ => rfl
  have bOR := FOR.binds (ps := ["_law_draw", "_law_many"]) fun _ _ _ _ _ _ us hl => match us, hl with | [_, _], _ => rfl
  have bRW := FRW.binds (ps := ["_law_text"]) fun _ _ _ _ _ _ us hl => match us, hl with | [_], _ => rfl
  have bLS := FLS.binds (ps := ["_law_row_here"]) fun _ _ _ _ _ _ us hl => match us, hl with | [_], _ => rfl
  have bLG := FLG.binds (ps := ["_law_row_here"]) fun _ _ _ _ _ _ us hl => match us, hl with | [_], _ => rfl
  have bLI := FLI.binds (ps := ["_law_row_here"]) fun _ _ _ _ _ _ us hl => match us, hl with | [_], _ => rfl
  have mFS := PySem.W.mg_of X G aFS
  have mCR := PySem.W.mg_of X G aCR
  have mSA := PySem.W.mg_of X G aSA
  have mTO := PySem.W.mg_of X G aTO
  have mSW := PySem.W.mg_of X G aSW
  have mGA := PySem.W.mg_of X G aGA
  have mID := PySem.W.mg_of X G aID
  have mHO := PySem.W.mg_of X G aHO
  have mOP := PySem.W.mg_of X G aOP
  have mPU := PySem.W.mg_of X G aPU
  have mNU := PySem.W.mg_of X G aNU
  have mLK := PySem.W.mg_of X G aLK
  have mRO := PySem.W.mg_of X G aRO
  have mBA := PySem.W.mg_of X G aBA
  have mSU := PySem.W.mg_of X G aSU
  have mWH := PySem.W.mg_of X G aWH
  have mOR := PySem.W.mg_of X G aOR
  have mRW := PySem.W.mg_of X G aRW
  have mLS := PySem.W.mg_of X G aLS
  have mLG := PySem.W.mg_of X G aLG
  have mLI := PySem.W.mg_of X G aLI
  have mLW := PySem.W.mg_of X G aLW
  have oex : OexC K C := ⟨⟨nm, q, N, bs, bm, sn, sub, ab, col, dd, k0, k1, k2, k3, k5, xC, xbm⟩, sa, eC, tC, kC⟩
  have S1 : SupC PySem.Challenge.pw_pulsewright_k01_rows_by_themselves K mg C fI cc cda "at" := ⟨oex, nat, mC, vC, sup, opq, ⟨ccl, cdd, vsc, ccs, file, tf, lcd, vs2, fil⟩, ⟨cl, cld, csl, lcc⟩, PySem.W.mg_none_of X G z_sup, tps⟩
  have T8 : Cls8 K mg C := ⟨PySem.W.mg_of X G aC, ⟨ga, gg, eC, hC⟩, nat, exm_own eC iC tC sC, B.str, ⟨C2, C3, C4, C5, C6, C7, C8, PySem.W.mg_of X G aC2, PySem.W.mg_of X G aC3, PySem.W.mg_of X G aC4, PySem.W.mg_of X G aC5, PySem.W.mg_of X G aC6, PySem.W.mg_of X G aC7, PySem.W.mg_of X G aC8⟩⟩
  have bWH : Binds K (PySem.W.fnOf "_law_why" "_law_why" (defArgs sWH) (defBody sWH) (defScope sWH) .none kVWH dcWH pmWH anWH cdWH ctWH) ["_law_ask"] [] := Binds.all (fun us hl => match us, hl with | [_], _ => rfl)
  refine ⟨PySem.W.fnOf "law" "law" (defArgs sLW) (defBody sLW) (defScope sLW) .none kVLW dcLW pmLW anLW (.ref c) ctLW, [(c, Pt)], spLW K Pt, ?_, ?_, ?_, fun s u => .of_eq rfl, ?_, fun base kb gb tb => ?_⟩
  · intro p hp
    rw [List.mem_singleton.mp hp]
    exact tab
  · intro p hp
    rw [List.mem_singleton.mp hp]
    exact nPt
  · intro p hp
    rw [List.mem_singleton.mp hp]
    exact PySem.W.codeHd_of_K X chd
  · intro H a ns _ _ hp hS
    refine ⟨a, ns, rfl, hS, fun p hm => ?_, fun _ => rfl⟩
    rw [List.mem_singleton.mp hm]
    exact LamX.TabS.nil (hp (c, Pt) (List.mem_singleton.mpr rfl))
  · have E1 : ErrOk PySem.Challenge.pw_pulsewright_k01_rows_by_themselves w K mg base "BadRow" "at" C okInt := err_row S1 lI cI (PySem.W.mg_of X G aC) aI tI
    have oFS : FnOk PySem.Challenge.pw_pulsewright_k01_rows_by_themselves w K mg base CX0 1 fFS _ ["text"] spFS := ok_fs FFS B.enu
    have R : CROk PySem.Challenge.pw_pulsewright_k01_rows_by_themselves w K mg base C := ⟨⟨_, _, ok_cr FCR oFS mFS kFS bFS E1, mCR, kCR, bCR⟩⟩
    have oSA : FnOk PySem.Challenge.pw_pulsewright_k01_rows_by_themselves w K mg base CX0 1 fSA _ ["row"] spSA := ok_sa FSA B.max B.min
    have oPU : FnOk PySem.Challenge.pw_pulsewright_k01_rows_by_themselves w K mg base CX0 1 fPU _ ["_law_draw", "_law_total_of"] spPU := ok_pu FPU B.len
    have PU : PUOk PySem.Challenge.pw_pulsewright_k01_rows_by_themselves w K mg base := ⟨⟨_, _, oPU, mPU, kPU, bPU⟩⟩
    have oNU : FnOk PySem.Challenge.pw_pulsewright_k01_rows_by_themselves w K mg base CX0 1 fNU _ ["_law_found"] spNU := ok_nu FNU B
    have oBA : FnOk PySem.Challenge.pw_pulsewright_k01_rows_by_themselves w K mg base CX0 1 fBA _ ["_law_text"] spBA := ok_ba FBA B.rng B.len
    have oSU : FnOk PySem.Challenge.pw_pulsewright_k01_rows_by_themselves w K mg base CX0 1 fSU _ ["_law_row_here"] spSU := ok_su FSU B.int
    have Z : Calls PySem.Challenge.pw_pulsewright_k01_rows_by_themselves w K mg base C := {
      B := B
      op := ⟨⟨_, _, ok_op FOP B.lst, mOP, kOP, bOP⟩⟩
      pu := ⟨⟨_, _, oPU, mPU, kPU, bPU⟩⟩
      od := ⟨⟨_, _, ok_or FOR B PU (ok_ro FRO PU B.rng) mRO kRO bRO, mOR, kOR, bOR⟩⟩
      rw := ⟨⟨_, _, ok_rw FRW oBA mBA kBA bBA B.str, mRW, kRW, bRW⟩⟩
      ls := ⟨⟨_, _, ok_ls FLS B oSU mSU kSU bSU, mLS, kLS, bLS⟩⟩
      lg := ⟨⟨_, _, ok_lg FLG B.rng B.len, mLG, kLG, bLG⟩⟩
      li := ⟨⟨_, _, ok_li FLI B.max, mLI, kLI, bLI⟩⟩
      lk := ⟨⟨_, _, ok_lk FLK B mLK kLK bLK oNU mNU kNU bNU 4, mLK, kLK, bLK⟩⟩
      to := ⟨⟨_, _, ok_to FTO R, mTO, kTO, bTO⟩⟩
      sw := ⟨⟨_, _, ok_sw FSW R oSA mSA kSA bSA, mSW, kSW, bSW⟩⟩
      ga := ⟨⟨_, _, ok_ga FGA R B.len, mGA, kGA, bGA⟩⟩
      id := ⟨⟨_, _, ok_id FID R B.len B.max, mID, kID, bID⟩⟩
      ho := ⟨⟨_, _, ok_ho FHO R, mHO, kHO, bHO⟩⟩ }
    exact ok_lw lLW cLW lWH cWH mWH kWH bWH (tb (c, Pt) (List.mem_singleton.mpr rfl)) T8 (PySem.W.mg_of X G aC2) (PySem.W.mg_of X G aC3) (PySem.W.mg_of X G aC4) (PySem.W.mg_of X G aC5) (PySem.W.mg_of X G aC6) (PySem.W.mg_of X G aC7) (PySem.W.mg_of X G aC8) Z
end K01

set_option Elab.async false
open PySem PySem.W PyProof.Rows
set_option maxRecDepth 100000 in
set_option maxHeartbeats 0 in
theorem PySem.Challenge.cw_pulsewright_k01_rows_by_themselves_holds : PySem.Challenge.rw_pulsewright_k01_rows_by_themselves.Holds := by
  w_on; o_law; k_head; (case hw => w_witness2)
  k_fill
  refine LamX.walk_ofTs (l := PySem.Challenge.rw_pulsewright_k01_rows_by_themselves) (n := 63) (k := 7) (x := "_law_script") (CX := fun _ => L2.CX0) rfl (by decide) rfl ⟨rfl, by decide, by decide⟩ (fun w h Y => PySem.W.km_in_of Y) ?F (fun _ _ _ _ _ z => z)
  case F =>
    intro w mg fa h Y KX G hmg
    have hY := PySem.W.km_tabs_of Y
    refine' K01.all_mk KX G hmg ?aFS ?lFS ?cFS ?kFS ?aCR ?lCR ?cCR ?kCR ?aSA ?lSA ?cSA ?kSA ?aTO ?lTO ?cTO ?kTO ?aSW ?lSW ?cSW ?kSW ?aGA ?lGA ?cGA ?kGA ?aID ?lID ?cID ?kID ?aHO ?lHO ?cHO ?kHO ?aOP ?lOP ?cOP ?kOP ?aPU ?lPU ?cPU ?kPU ?aNU ?lNU ?cNU ?kNU ?aLK ?lLK ?cLK ?kLK ?aRO ?lRO ?cRO ?kRO ?aBA ?lBA ?cBA ?kBA ?aSU ?lSU ?cSU ?kSU ?aWH ?lWH ?cWH ?kWH ?aOR ?lOR ?cOR ?kOR ?aRW ?lRW ?cRW ?kRW ?aLS ?lLS ?cLS ?kLS ?aLG ?lLG ?cLG ?kLG ?aLI ?lLI ?cLI ?kLI ?aLW ?lLW ?cLW ?kLW ?z_isi ?z_int ?z_bool ?z_str ?z_tup ?z_lst ?z_len ?z_all ?z_rng ?z_max ?z_min ?z_abs ?z_enu ?z_sup ?aC ?aC2 ?aC3 ?aC4 ?aC5 ?aC6 ?aC7 ?aC8 ?xC ?xbm ?sa ?ga ?gg ?nat ?eC ?vC ?tC ?hC ?iC ?sC ?mC ?kC ?aI ?tI ?lI ?cI ?lcd ?lcc ?sup ?opq ?vs2 ?fil ?tps ?tab ?nPt ?chd
    (case aFS => k_is)
    (case lFS => k_is)
    (case cFS => k_is)
    (case kFS => k_is)
    (case aCR => k_is)
    (case lCR => k_is)
    (case cCR => k_is)
    (case kCR => k_is)
    (case aSA => k_is)
    (case lSA => k_is)
    (case cSA => k_is)
    (case kSA => k_is)
    (case aTO => k_is)
    (case lTO => k_is)
    (case cTO => k_is)
    (case kTO => k_is)
    (case aSW => k_is)
    (case lSW => k_is)
    (case cSW => k_is)
    (case kSW => k_is)
    (case aGA => k_is)
    (case lGA => k_is)
    (case cGA => k_is)
    (case kGA => k_is)
    (case aID => k_is)
    (case lID => k_is)
    (case cID => k_is)
    (case kID => k_is)
    (case aHO => k_is)
    (case lHO => k_is)
    (case cHO => k_is)
    (case kHO => k_is)
    (case aOP => k_is)
    (case lOP => k_is)
    (case cOP => k_is)
    (case kOP => k_is)
    (case aPU => k_is)
    (case lPU => k_is)
    (case cPU => k_is)
    (case kPU => k_is)
    (case aNU => k_is)
    (case lNU => k_is)
    (case cNU => k_is)
    (case kNU => k_is)
    (case aLK => k_is)
    (case lLK => k_is)
    (case cLK => k_is)
    (case kLK => k_is)
    (case aRO => k_is)
    (case lRO => k_is)
    (case cRO => k_is)
    (case kRO => k_is)
    (case aBA => k_is)
    (case lBA => k_is)
    (case cBA => k_is)
    (case kBA => k_is)
    (case aSU => k_is)
    (case lSU => k_is)
    (case cSU => k_is)
    (case kSU => k_is)
    (case aWH => k_is)
    (case lWH => k_is)
    (case cWH => k_is)
    (case kWH => k_is)
    (case aOR => k_is)
    (case lOR => k_is)
    (case cOR => k_is)
    (case kOR => k_is)
    (case aRW => k_is)
    (case lRW => k_is)
    (case cRW => k_is)
    (case kRW => k_is)
    (case aLS => k_is)
    (case lLS => k_is)
    (case cLS => k_is)
    (case kLS => k_is)
    (case aLG => k_is)
    (case lLG => k_is)
    (case cLG => k_is)
    (case kLG => k_is)
    (case aLI => k_is)
    (case lLI => k_is)
    (case cLI => k_is)
    (case kLI => k_is)
    (case aLW => k_is)
    (case lLW => k_is)
    (case cLW => k_is)
    (case kLW => k_is)
    (case z_isi => k_is)
    (case z_int => k_is)
    (case z_bool => k_is)
    (case z_str => k_is)
    (case z_tup => k_is)
    (case z_lst => k_is)
    (case z_len => k_is)
    (case z_all => k_is)
    (case z_rng => k_is)
    (case z_max => k_is)
    (case z_min => k_is)
    (case z_abs => k_is)
    (case z_enu => k_is)
    (case z_sup => k_is)
    (case aC => k_is)
    (case aC2 => k_is)
    (case aC3 => k_is)
    (case aC4 => k_is)
    (case aC5 => k_is)
    (case aC6 => k_is)
    (case aC7 => k_is)
    (case aC8 => k_is)
    (case xC => k_is)
    (case xbm => first | rfl | decide +kernel)
    (case sa => k_is)
    (case ga => k_is)
    (case gg => k_is)
    (case nat => k_is)
    (case eC => k_is)
    (case vC => k_is)
    (case tC => k_is)
    (case hC => k_is)
    (case iC => k_is)
    (case sC => k_is)
    (case mC => k_is)
    (case kC => k_is)
    (case aI => k_is)
    (case tI => k_is)
    (case lI => k_is)
    (case cI => k_is)
    (case lcd => k_is)
    (case lcc => k_is)
    (case sup => ks_is)
    (case opq => k_is)
    (case vs2 => rfl)
    (case fil => first | rfl | decide +kernel)
    (case tps => first | rfl | decide +kernel)
    (case tab => exact hY _ (List.mem_singleton.mpr rfl))
    (case nPt => first | rfl | kernel_rfl)
    (case chd => first | rfl | kernel_rfl)

