import PyProof.Rows.All
import Wide.All
import OpenK.AllK
import Wide.FinOn
import HandS.ForMost
import HandS.Walk
import HandS.IsInst
import HandS.Conv
import HandS.Style
import HandS.ExcInit
import HandS.ExcField
import KE.KExcIs
import HandS.Wide
import HandS.Zip
import HandS.NoneIn
import HandS.More
import PySem.Challenge.RW_thinskin_k03_refusals_by_hand
set_option Elab.async false
set_option linter.all false
set_option maxRecDepth 100000
set_option maxHeartbeats 4000000
/-! ### own exceptions as values: made, looked at, read -/
namespace EX
open PySem PySem.Spec PyProof.Rows L2
section
variable {X : Cx} {e : Expr} {es : List Expr} {ta : TA} {te : TE} {p p1 p2 pos : Pos}
/-- C.m(e, ..), m a plain def of the class C -/
theorem pe_clsfn {CX : CXT} {x m : Str} {C f : Addr} {mc : Value} {k : Nat} {fd : FuncData} {ps : List Str} {sp : Sp} {ds : List Value} {dvs : List V} {E : XK} {pl : Sem Bool} (rd : PySem.W.readsIn X.K C mc = true) (ga : PySem.W.specialIn X.K (.ref C) "__getattribute__" = some (some (.builtin "type.__getattribute__")))
    (fm : PySem.W.findCls X.K (.ref C) mc m = some (.val (.ref f))) (F : FnOk X.prog X.w X.K X.mg X.base CX k f fd ps sp) (hr : Room k X.A) (hg : Gl X x) (hm : X.mg x = some (.ref C)) (hk : PySem.W.keepIn X.K (.ref f) = true) (hb : Binds X.K fd ps ds) (hd : Vals dvs ds) (hx : Passes CX X E) (ha : PA X (e :: es) ta)
    (hdb : (x == ("__debug__" : Str)) = false := by decide)
    (hc : eval (.Call (.Attribute (.Name x p1) m p2) (e :: es) [] pos) X.env = (do
      let ov ← eval (.Name x p1) X.env; standAt p2.atName; let (f, first) ← holding [ov] (getMethod ov m pl); callWith pos f first (backTo pos (starEach (e :: es) X.env)) (backToKw pos (keywordEach [] X.env))) := by rfl)
    (he : starEach (e :: es) X.env = (false, eval e X.env) :: starEach es X.env := by rfl) (hpl : (backTo pos (starEach es X.env)).any (·.1) = false := by rfl) :
    PE X (.Call (.Attribute (.Name x p1) m p2) (e :: es) [] pos) (tCall sp dvs E ta) := by
  refine ⟨fun pins s σ H Q I h => PySem.W.methodCall_KW (ld_glob I hg hm ?_ hdb) hc⟩
  refine PySem.W.method_cls I.kIn ga (PySem.W.cls_value I.kIn rd fm rfl ?_)
  exact PySem.W.callWith_K (h₀ := X.base) I.ok.mod.kin hk (thn (ha.run pos pins _ σ H _ (I.tok _) h) fun us s1 ⟨vs, H1, I1, r1, q⟩ => ⟨I1.kIn, run_fn F hr hb hd hx I1 r1 q⟩) he hpl
/-- C(e, ..), a new exception, held as a value -/
def tMkV (C : Addr) (sp : Sp) (ta : TA) : TE := fun σ H Q => ta σ H fun vs H1 => vs.length ≤ 1000 ∧ ∀ a, H1 a = none → sp (.ref a :: vs) (upd H1 a (exo a C none)) (fun v H2 => v = .non ∧ Q (.ref a) H2) (fun _ _ _ => False)
theorem pe_mkV {CX : CXT} {x : Str} {C fI : Addr} {k : Nat} {fd : FuncData} {ps : List Str} {sp : Sp} (T : OexC X.K C) (iC : PySem.W.findIn X.K (.ref C) "__init__" = some (some (.ref fI))) (tI : PySem.W.typeIn X.K (.ref fI) = some (.type "function"))
    (F1 : FnOk X.prog X.w X.K X.mg X.base CX k fI fd ps sp) (hr : Room (k + 1) X.A) (hb : Binds X.K fd ps []) (hx : Passes CX X (fun _ _ _ => False)) (hg : Gl X x) (hm : X.mg x = some (.ref C)) (ha : PA X (e :: es) ta)
    (hdb : (x == ("__debug__" : Str)) = false := by decide) (he : starEach (e :: es) X.env = (false, eval e X.env) :: starEach es X.env := by rfl) (hpl : (backTo pos (starEach es X.env)).any (·.1) = false := by rfl) :
    PE X (.Call (.Name x p) (e :: es) [] pos) (tMkV C sp ta) := by
  refine ⟨fun pins s σ H Q I h => wpAny_Call_Name_kw (ld_glob I hg hm ?_ hdb)⟩
  obtain ⟨nm, q, N, bs, bm, sn, sub, ab, col, dd, k0, k1, k2, k3, k5, hC, hbm⟩ := T.cls
  refine PySem.W.callWith_K (h₀ := X.base) I.ok.mod.kin T.kC (thn (ha.run pos pins s σ H _ I h) fun us s1 hu => ?_) he hpl
  obtain ⟨vs, H1, I1, r1, hz, q1⟩ := hu
  refine ⟨I1.kIn, ?_⟩
  show wpAny _ _ (call (.ref C) us) _ _ _
  obtain ⟨hp, g, dr, tk, os⟩ := s1
  have top : hp.objs.size ≤ hp.objs.size + 1 := Nat.le_succ _
  have hq := q1 (hp.objs.size + 1) (I1.hok.fresh top)
  generalize hG : (hp.push (PySem.W.kdv_tup us)).push (PySem.HandSPX.excO C hp.objs.size) = G
  have kk : ∀ b o, hp.get? b = some o → G.get? b = some o := fun b o z => by
    rw [← hG]
    exact Heap.get?_push_of_some _ (Heap.get?_push_of_some _ z)
  have hget : G.get? (hp.objs.size + 1) = some (PySem.HandSPX.excO C hp.objs.size) := by
    rw [← hG]
    heap_get
  have J : Inv X pins σ (upd H1 (hp.objs.size + 1) (exo (hp.objs.size + 1) C none)) ⟨G, g, dr, tk, os⟩ := I1.laid (t' := tk) kk top (exo_ok hget)
  have rr : Vals (V.ref (hp.objs.size + 1) :: vs) (Value.ref (hp.objs.size + 1) :: us) := .cons rfl r1
  have hl : (Value.ref (hp.objs.size + 1) :: us).length = ps.length := rr.length.symm.trans (F1.len _ _ _ _ hq)
  have hus : us.length ≤ sizeLine := by
    rw [← Paired.length r1, sizeLine_eq]; omega
  have run := F1.run _ X.stack _ _ ⟨Value.ref (hp.objs.size + 1) :: us, []⟩ (Value.ref (hp.objs.size + 1) :: us) _ _ (fun _ _ _ => False) (hr.make C us []) (J.env0.make C us []) (by
    have z := hb ⟨G, g, dr, tk, os⟩ (Value.ref (hp.objs.size + 1) :: us) J.kIn (by rw [List.append_nil]; exact hl)
    rw [List.append_nil] at z
    exact z) rr hq
  rw [← hG] at run
  refine wpAny_call (PySem.HandSPX.call_own F.excBase_ValueError (fun Y => PySem.HandSPX.refsVE_contains Y bm hbm) (I1.kIn _ _ hC) (PySem.W.looks_findIn I1.kIn iC) (fun self => PySem.W.bind_fn I1.kIn self tI) hus (codeAny_mono run fun r s' hq' => ?_))
  cases r with
  | error er =>
    rw [hG] at hq'
    exact hx pins σ _ _ er s' J hq'
  | ok fl =>
    cases fl with
    | ret u =>
      rw [hG] at hq'
      obtain ⟨v, H2, os2, bare2, un2, hok2, rv, ev, q2⟩ := hq'
      subst ev
      obtain ⟨h2, g2, d2, t2, os'⟩ := s'
      exact ⟨rv, .ref (hp.objs.size + 1), H2, J.call' (ch := []) os2 un2 hok2 bare2 (fun b z => absurd z (by simp)), rfl, q2⟩
    | next => exact False.elim hq'
    | brk => exact False.elim hq'
    | cont => exact False.elim hq'
/-- an exception at a, of the class C, with these fields -/
def Exc (H : Hp) (a C : Addr) (fs : List (Str × V)) : Prop := (H a = some (exo a C none) ∧ fs = []) ∨ ∃ dx, H a = some (exo a C (some dx)) ∧ H dx = some (exd dx fs)
/-- what the written part says of the class, so that its exceptions can be looked at -/
structure See (K : PySem.W.Frag) (C : Addr) : Prop where
  cl : (PySem.W.clsIn K C).isSome = true
  ga : PySem.W.findIn K (.ref C) "__getattribute__" = some (some (.builtin "BaseException.__getattribute__"))
  gg : PySem.W.findIn K (.ref C) "__getattr__" = some none
  sb : PySem.W.subIn K (.ref C) (.type "BaseException") = some true
  hd : PySem.W.hasDictIn K C = true
  kl : PySem.W.findIn K (.ref C) "__class__" = some (some (.builtin "object.__class__"))
  kg : PySem.W.specialIn K (.builtin "object.__class__") "__get__" = some (some (.builtin "getset_descriptor.__get__"))
  kt : PySem.W.takesIn K (.builtin "object.__class__") = some true
  ob : PySem.W.mroIn K C (.type "object") = some true
theorem Exc.inst {pins : List (Addr × Obj)} {σ : L2.St} {H : Hp} {s : Shared} {a C : Addr} {fs : List (Str × V)} (I : Inv X pins σ H s) (h : Exc H a C fs) :
    ∃ (ox : Obj) (od : Option Obj), PySem.W.InstAt s.heap a ox C od := by
  rcases h with ⟨h, rfl⟩ | ⟨dx, h, hd⟩
  · obtain ⟨t1, ho⟩ := exo_at I.hok h
    exact ⟨_, none, ho, rfl, rfl, trivial⟩
  · obtain ⟨t1, ho⟩ := exo_at I.hok h
    obtain ⟨mA, hns, rel⟩ := exd_at I.hok hd
    obtain ⟨oD, ho2, _⟩ := lookIn_ns hns
    exact ⟨_, some oD, ho, rfl, rfl, ho2⟩
/-- isinstance(e, c), e an own exception -/
def rIsX (K : PySem.W.Frag) : List V → Hp → VK → Prop := fun xs H Q => ∃ (a C : Addr) (fs : List (Str × V)) (c : V) (u : Value) (b : Bool), xs = [.ref a, c] ∧ ClsV c u ∧ Exc H a C fs ∧ See K C ∧ PySem.W.kitOne K (.ref C) u = some b ∧ Q (.bl b) H
theorem call_isX : CallR X (.builtin "isinstance") (rIsX X.K) := by
  intro pins s σ H xs us Q I r h
  obtain ⟨a, C, fs, c, u, b, rfl, k, hx, S, e, q⟩ := h
  obtain ⟨u1, u2, rfl, r1, r2⟩ := vals2 r
  have e2 := k.eq r2
  subst e2
  cases (show u1 = Value.ref a from r1)
  obtain ⟨ox, od, J⟩ := hx.inst I
  exact PySem.W.kia_one (PySem.W.kitx_exc S.cl S.ga S.gg S.sb S.kl S.kg S.kt S.ob) I.kIn J e (fun z => nomatch z) fun tk => ⟨.bl b, H, I.tok tk, rfl, q⟩
/-- e.f, a field of an own exception -/
def tFld (K : PySem.W.Frag) (f : Str) (te : TE) : TE := fun σ H Q => te σ H fun x H1 => ∃ (a C dx : Addr) (fs : List (Str × V)) (v : V), x = .ref a ∧ See K C ∧ PySem.W.findIn K (.ref C) f = some none ∧ H1 a = some (exo a C (some dx)) ∧ H1 dx = some (exd dx fs) ∧ fs.lookup f = some v ∧ Q v H1
theorem pe_fld {n : Str} (he : PE X e te) (hb : attributeBase e n X.env (eval e X.env) = eval e X.env := by rfl) : PE X (.Attribute e n pos) (tFld X.K n te) := by
  refine ⟨fun pins s σ H Q I h => attr_of hb (thn (he.run pins s σ H _ I h) fun u s1 hh => ?_)⟩
  obtain ⟨x, H1, I1, rx, a, C, dx, fs, v, rfl, S, hno, ea, ed, l, q⟩ := hh
  cases (show u = Value.ref a from rx)
  obtain ⟨t1, ho⟩ := exo_at I1.hok ea
  obtain ⟨mA, hns, rel⟩ := exd_at I1.hok ed
  obtain ⟨od, hod, hl⟩ := lookIn_ns hns
  obtain ⟨u, hu, ru⟩ := RelO.some_of (v := v) (o := mA n) (by rw [← l]; exact rel n)
  have J : PySem.W.InstAt s1.heap a _ C (some od) := ⟨ho, rfl, rfl, hod⟩
  exact HandSPX.exc_get I1.kIn J S.ga S.gg S.sb (PySem.W.findObj_own S.hd hno rfl (by rw [hl, hu])) (handed_of ru) ⟨v, H1, I1.tok _, ru, q⟩
end
end EX

set_option exponentiation.threshold 10000
namespace K03
open PySem PySem.Spec PyProof.Rows L2
/-! ### the text (by an own tool) -/
def topS (i : Nat) : Stmt := PySem.Challenge.pw_thinskin_k03_refusals_by_hand.main.body.getD i (.Pass ⟨0, 0, 0, 0⟩)
abbrev s_Lbox : Stmt := topS 11
theorem sc_Lbox : FnScope ["_law_cells", "_law_k", "_law_cell"] ["_law_cells", "_law_k"] (defScope s_Lbox) := ⟨rfl, rfl, rfl, by decide +kernel, rfl, by decide +kernel, by decide +kernel⟩
abbrev s_Ltake : Stmt := topS 12
theorem sc_Ltake : FnScope ["_law_box_here", "_law_many", "_law_found", "_law_once", "_law_twice"] ["_law_box_here", "_law_many"] (defScope s_Ltake) := ⟨rfl, rfl, rfl, by decide +kernel, rfl, by decide +kernel, by decide +kernel⟩
abbrev s_Lfolded : Stmt := topS 13
theorem sc_Lfolded : FnScope ["_law_script", "_law_many", "_law_cells", "_law_k", "_law_cell"] ["_law_script", "_law_many"] (defScope s_Lfolded) := ⟨rfl, rfl, rfl, by decide +kernel, rfl, by decide +kernel, by decide +kernel⟩
abbrev s_Lsame : Stmt := topS 14
theorem sc_Lsame : FnScope ["_law_found", "_law_due", "_law_one", "_law_other"] ["_law_found", "_law_due"] (defScope s_Lsame) := ⟨rfl, rfl, rfl, by decide +kernel, rfl, by decide +kernel, by decide +kernel⟩
abbrev s_Lshuffled : Stmt := topS 15
theorem sc_Lshuffled : FnScope ["_law_box_here", "_law_some", "_law_found", "_law_one"] ["_law_box_here", "_law_some"] (defScope s_Lshuffled) := ⟨rfl, rfl, rfl, by decide +kernel, rfl, by decide +kernel, by decide +kernel⟩
abbrev s_Lmade : Stmt := topS 16
theorem sc_Lmade : FnScope ["_law_which", "_law_words", "_law_word", "_law_row"] ["_law_which", "_law_words", "_law_word", "_law_row"] (defScope s_Lmade) := ⟨rfl, rfl, rfl, by decide +kernel, rfl, by decide +kernel, by decide +kernel⟩
abbrev s_Lkinds : Stmt := topS 17
theorem sc_Lkinds : FnScope ["_law_error", "_law_some"] ["_law_error"] (defScope s_Lkinds) := ⟨rfl, rfl, rfl, by decide +kernel, rfl, by decide +kernel, by decide +kernel⟩
abbrev s_Lright : Stmt := topS 18
theorem sc_Lright : FnScope ["_law_box_here", "_law_which", "_law_words", "_law_word", "_law_row", "_law_error", "_law_k"] ["_law_box_here"] (defScope s_Lright) := ⟨rfl, rfl, rfl, by decide +kernel, rfl, by decide +kernel, by decide +kernel⟩
abbrev s_law : Stmt := topS 19
theorem sc_law : FnScope ["_law_script", "_law_cells", "_law_k"] ["_law_script"] (defScope s_law) := ⟨rfl, rfl, rfl, by decide +kernel, rfl, by decide +kernel, by decide +kernel⟩
abbrev s_iSkinError : Stmt := inClass (topS 1) 0
theorem sc_iSkinError : FnScope ["self", "words"] ["self", "words"] (defScope s_iSkinError) := ⟨rfl, rfl, rfl, by decide +kernel, rfl, by decide +kernel, by decide +kernel⟩
abbrev s_iBarred : Stmt := inClass (topS 2) 0
theorem sc_iBarred : FnScope ["self", "words", "word"] ["self", "words", "word"] (defScope s_iBarred) := ⟨rfl, rfl, rfl, by decide +kernel, rfl, by decide +kernel, by decide +kernel⟩
abbrev s_iBadRow : Stmt := inClass (topS 8) 0
theorem sc_iBadRow : FnScope ["self", "words", "row"] ["self", "words", "row"] (defScope s_iBadRow) := ⟨rfl, rfl, rfl, by decide +kernel, rfl, by decide +kernel, by decide +kernel⟩
structure Di (K : PySem.W.Frag) (q : Str) (st : Stmt) (f : Addr) (fd : FuncData) (ps : List Str) : Prop where
  F : Fun K "__init__" q st f fd
  b : Binds K fd ps []
  t : PySem.W.typeIn K (.ref f) = some (.type "function")
structure Df (K : PySem.W.Frag) (mg : Str → Option Value) (x : Str) (st : Stmt) (f : Addr) (fd : FuncData) (ps : List Str) : Prop where
  F : Fun K x x st f fd
  g : mg x = some (.ref f)
  b : Binds K fd ps []
structure Tx (K : PySem.W.Frag) (mg : Str → Option Value) where
  a_Lbox : Addr
  f_Lbox : FuncData
  a_Ltake : Addr
  f_Ltake : FuncData
  a_Lfolded : Addr
  f_Lfolded : FuncData
  a_Lsame : Addr
  f_Lsame : FuncData
  a_Lshuffled : Addr
  f_Lshuffled : FuncData
  a_Lmade : Addr
  f_Lmade : FuncData
  a_Lkinds : Addr
  f_Lkinds : FuncData
  a_Lright : Addr
  f_Lright : FuncData
  a_law : Addr
  f_law : FuncData
  d_Lbox : Df K mg "_law_box" s_Lbox a_Lbox f_Lbox ["_law_cells", "_law_k"]
  d_Ltake : Df K mg "_law_take" s_Ltake a_Ltake f_Ltake ["_law_box_here", "_law_many"]
  d_Lfolded : Df K mg "_law_folded" s_Lfolded a_Lfolded f_Lfolded ["_law_script", "_law_many"]
  d_Lsame : Df K mg "_law_same" s_Lsame a_Lsame f_Lsame ["_law_found", "_law_due"]
  d_Lshuffled : Df K mg "_law_shuffled" s_Lshuffled a_Lshuffled f_Lshuffled ["_law_box_here", "_law_some"]
  d_Lmade : Df K mg "_law_made" s_Lmade a_Lmade f_Lmade ["_law_which", "_law_words", "_law_word", "_law_row"]
  d_Lkinds : Df K mg "_law_kinds" s_Lkinds a_Lkinds f_Lkinds ["_law_error"]
  d_Lright : Df K mg "_law_right" s_Lright a_Lright f_Lright ["_law_box_here"]
  d_law : Df K mg "law" s_law a_law f_law ["_law_script"]
  z_ValueError : mg "ValueError" = none
  z_abs : mg "abs" = none
  z_all : mg "all" = none
  z_bool : mg "bool" = none
  z_enumerate : mg "enumerate" = none
  z_int : mg "int" = none
  z_isinstance : mg "isinstance" = none
  z_len : mg "len" = none
  z_list : mg "list" = none
  z_max : mg "max" = none
  z_range : mg "range" = none
  z_str : mg "str" = none
  z_tuple : mg "tuple" = none
  z_zip : mg "zip" = none
  b_SkinError : Addr
  h_SkinError : FuncData
  e_SkinError : Di K "SkinError.__init__" s_iSkinError b_SkinError h_SkinError ["self", "words"]
  b_Barred : Addr
  h_Barred : FuncData
  e_Barred : Di K "Barred.__init__" s_iBarred b_Barred h_Barred ["self", "words", "word"]
  b_BadRow : Addr
  h_BadRow : FuncData
  e_BadRow : Di K "BadRow.__init__" s_iBadRow b_BadRow h_BadRow ["self", "words", "row"]
  vV : PySem.W.findCls K (.type "ValueError") (.type "type") "__init__" = some (.val (.builtin "ValueError.__init__"))
  c_SkinError : Addr
  c_Barred : Addr
  c_NoStep : Addr
  c_AtEnd : Addr
  c_NotClosed : Addr
  c_NotYet : Addr
  c_NoJoin : Addr
  c_BadRow : Addr
  c_NoSkin : Addr
  g_SkinError : mg "SkinError" = some (.ref c_SkinError)
  o_SkinError : OexC K c_SkinError
  w_SkinError : EX.See K c_SkinError
  i_SkinError : PySem.W.findIn K (.ref c_SkinError) "__init__" = some (some (.ref b_SkinError))
  g_Barred : mg "Barred" = some (.ref c_Barred)
  o_Barred : OexC K c_Barred
  w_Barred : EX.See K c_Barred
  i_Barred : PySem.W.findIn K (.ref c_Barred) "__init__" = some (some (.ref b_Barred))
  n_Barred_word : PySem.W.findIn K (.ref c_Barred) "word" = some none
  k_Barred_SkinError : PySem.W.kitOne K (.ref c_Barred) (.ref c_SkinError) = some true
  k_Barred_NoStep : PySem.W.kitOne K (.ref c_Barred) (.ref c_NoStep) = some false
  k_Barred_AtEnd : PySem.W.kitOne K (.ref c_Barred) (.ref c_AtEnd) = some false
  k_Barred_NotClosed : PySem.W.kitOne K (.ref c_Barred) (.ref c_NotClosed) = some false
  k_Barred_NotYet : PySem.W.kitOne K (.ref c_Barred) (.ref c_NotYet) = some false
  k_Barred_NoJoin : PySem.W.kitOne K (.ref c_Barred) (.ref c_NoJoin) = some false
  k_Barred_BadRow : PySem.W.kitOne K (.ref c_Barred) (.ref c_BadRow) = some false
  k_Barred_NoSkin : PySem.W.kitOne K (.ref c_Barred) (.ref c_NoSkin) = some false
  k_Barred_VE : PySem.W.kitOne K (.ref c_Barred) (.type "ValueError") = some true
  g_NoStep : mg "NoStep" = some (.ref c_NoStep)
  o_NoStep : OexC K c_NoStep
  w_NoStep : EX.See K c_NoStep
  i_NoStep : PySem.W.findIn K (.ref c_NoStep) "__init__" = some (some (.ref b_SkinError))
  k_NoStep_SkinError : PySem.W.kitOne K (.ref c_NoStep) (.ref c_SkinError) = some true
  k_NoStep_Barred : PySem.W.kitOne K (.ref c_NoStep) (.ref c_Barred) = some false
  k_NoStep_AtEnd : PySem.W.kitOne K (.ref c_NoStep) (.ref c_AtEnd) = some false
  k_NoStep_NotClosed : PySem.W.kitOne K (.ref c_NoStep) (.ref c_NotClosed) = some false
  k_NoStep_NotYet : PySem.W.kitOne K (.ref c_NoStep) (.ref c_NotYet) = some false
  k_NoStep_NoJoin : PySem.W.kitOne K (.ref c_NoStep) (.ref c_NoJoin) = some false
  k_NoStep_BadRow : PySem.W.kitOne K (.ref c_NoStep) (.ref c_BadRow) = some false
  k_NoStep_NoSkin : PySem.W.kitOne K (.ref c_NoStep) (.ref c_NoSkin) = some false
  k_NoStep_VE : PySem.W.kitOne K (.ref c_NoStep) (.type "ValueError") = some true
  g_AtEnd : mg "AtEnd" = some (.ref c_AtEnd)
  o_AtEnd : OexC K c_AtEnd
  w_AtEnd : EX.See K c_AtEnd
  i_AtEnd : PySem.W.findIn K (.ref c_AtEnd) "__init__" = some (some (.ref b_SkinError))
  k_AtEnd_SkinError : PySem.W.kitOne K (.ref c_AtEnd) (.ref c_SkinError) = some true
  k_AtEnd_Barred : PySem.W.kitOne K (.ref c_AtEnd) (.ref c_Barred) = some false
  k_AtEnd_NoStep : PySem.W.kitOne K (.ref c_AtEnd) (.ref c_NoStep) = some false
  k_AtEnd_NotClosed : PySem.W.kitOne K (.ref c_AtEnd) (.ref c_NotClosed) = some false
  k_AtEnd_NotYet : PySem.W.kitOne K (.ref c_AtEnd) (.ref c_NotYet) = some false
  k_AtEnd_NoJoin : PySem.W.kitOne K (.ref c_AtEnd) (.ref c_NoJoin) = some false
  k_AtEnd_BadRow : PySem.W.kitOne K (.ref c_AtEnd) (.ref c_BadRow) = some false
  k_AtEnd_NoSkin : PySem.W.kitOne K (.ref c_AtEnd) (.ref c_NoSkin) = some false
  k_AtEnd_VE : PySem.W.kitOne K (.ref c_AtEnd) (.type "ValueError") = some true
  g_NotClosed : mg "NotClosed" = some (.ref c_NotClosed)
  o_NotClosed : OexC K c_NotClosed
  w_NotClosed : EX.See K c_NotClosed
  i_NotClosed : PySem.W.findIn K (.ref c_NotClosed) "__init__" = some (some (.ref b_SkinError))
  k_NotClosed_SkinError : PySem.W.kitOne K (.ref c_NotClosed) (.ref c_SkinError) = some true
  k_NotClosed_Barred : PySem.W.kitOne K (.ref c_NotClosed) (.ref c_Barred) = some false
  k_NotClosed_NoStep : PySem.W.kitOne K (.ref c_NotClosed) (.ref c_NoStep) = some false
  k_NotClosed_AtEnd : PySem.W.kitOne K (.ref c_NotClosed) (.ref c_AtEnd) = some false
  k_NotClosed_NotYet : PySem.W.kitOne K (.ref c_NotClosed) (.ref c_NotYet) = some false
  k_NotClosed_NoJoin : PySem.W.kitOne K (.ref c_NotClosed) (.ref c_NoJoin) = some false
  k_NotClosed_BadRow : PySem.W.kitOne K (.ref c_NotClosed) (.ref c_BadRow) = some false
  k_NotClosed_NoSkin : PySem.W.kitOne K (.ref c_NotClosed) (.ref c_NoSkin) = some false
  k_NotClosed_VE : PySem.W.kitOne K (.ref c_NotClosed) (.type "ValueError") = some true
  g_NotYet : mg "NotYet" = some (.ref c_NotYet)
  o_NotYet : OexC K c_NotYet
  w_NotYet : EX.See K c_NotYet
  i_NotYet : PySem.W.findIn K (.ref c_NotYet) "__init__" = some (some (.ref b_SkinError))
  k_NotYet_SkinError : PySem.W.kitOne K (.ref c_NotYet) (.ref c_SkinError) = some true
  k_NotYet_Barred : PySem.W.kitOne K (.ref c_NotYet) (.ref c_Barred) = some false
  k_NotYet_NoStep : PySem.W.kitOne K (.ref c_NotYet) (.ref c_NoStep) = some false
  k_NotYet_AtEnd : PySem.W.kitOne K (.ref c_NotYet) (.ref c_AtEnd) = some false
  k_NotYet_NotClosed : PySem.W.kitOne K (.ref c_NotYet) (.ref c_NotClosed) = some false
  k_NotYet_NoJoin : PySem.W.kitOne K (.ref c_NotYet) (.ref c_NoJoin) = some false
  k_NotYet_BadRow : PySem.W.kitOne K (.ref c_NotYet) (.ref c_BadRow) = some false
  k_NotYet_NoSkin : PySem.W.kitOne K (.ref c_NotYet) (.ref c_NoSkin) = some false
  k_NotYet_VE : PySem.W.kitOne K (.ref c_NotYet) (.type "ValueError") = some true
  g_NoJoin : mg "NoJoin" = some (.ref c_NoJoin)
  o_NoJoin : OexC K c_NoJoin
  w_NoJoin : EX.See K c_NoJoin
  i_NoJoin : PySem.W.findIn K (.ref c_NoJoin) "__init__" = some (some (.ref b_SkinError))
  k_NoJoin_SkinError : PySem.W.kitOne K (.ref c_NoJoin) (.ref c_SkinError) = some true
  k_NoJoin_Barred : PySem.W.kitOne K (.ref c_NoJoin) (.ref c_Barred) = some false
  k_NoJoin_NoStep : PySem.W.kitOne K (.ref c_NoJoin) (.ref c_NoStep) = some false
  k_NoJoin_AtEnd : PySem.W.kitOne K (.ref c_NoJoin) (.ref c_AtEnd) = some false
  k_NoJoin_NotClosed : PySem.W.kitOne K (.ref c_NoJoin) (.ref c_NotClosed) = some false
  k_NoJoin_NotYet : PySem.W.kitOne K (.ref c_NoJoin) (.ref c_NotYet) = some false
  k_NoJoin_BadRow : PySem.W.kitOne K (.ref c_NoJoin) (.ref c_BadRow) = some false
  k_NoJoin_NoSkin : PySem.W.kitOne K (.ref c_NoJoin) (.ref c_NoSkin) = some false
  k_NoJoin_VE : PySem.W.kitOne K (.ref c_NoJoin) (.type "ValueError") = some true
  g_BadRow : mg "BadRow" = some (.ref c_BadRow)
  o_BadRow : OexC K c_BadRow
  w_BadRow : EX.See K c_BadRow
  i_BadRow : PySem.W.findIn K (.ref c_BadRow) "__init__" = some (some (.ref b_BadRow))
  n_BadRow_row : PySem.W.findIn K (.ref c_BadRow) "row" = some none
  k_BadRow_SkinError : PySem.W.kitOne K (.ref c_BadRow) (.ref c_SkinError) = some true
  k_BadRow_Barred : PySem.W.kitOne K (.ref c_BadRow) (.ref c_Barred) = some false
  k_BadRow_NoStep : PySem.W.kitOne K (.ref c_BadRow) (.ref c_NoStep) = some false
  k_BadRow_AtEnd : PySem.W.kitOne K (.ref c_BadRow) (.ref c_AtEnd) = some false
  k_BadRow_NotClosed : PySem.W.kitOne K (.ref c_BadRow) (.ref c_NotClosed) = some false
  k_BadRow_NotYet : PySem.W.kitOne K (.ref c_BadRow) (.ref c_NotYet) = some false
  k_BadRow_NoJoin : PySem.W.kitOne K (.ref c_BadRow) (.ref c_NoJoin) = some false
  k_BadRow_NoSkin : PySem.W.kitOne K (.ref c_BadRow) (.ref c_NoSkin) = some false
  k_BadRow_VE : PySem.W.kitOne K (.ref c_BadRow) (.type "ValueError") = some true
  g_NoSkin : mg "NoSkin" = some (.ref c_NoSkin)
  o_NoSkin : OexC K c_NoSkin
  w_NoSkin : EX.See K c_NoSkin
  i_NoSkin : PySem.W.findIn K (.ref c_NoSkin) "__init__" = some (some (.ref b_SkinError))
  k_NoSkin_SkinError : PySem.W.kitOne K (.ref c_NoSkin) (.ref c_SkinError) = some true
  k_NoSkin_Barred : PySem.W.kitOne K (.ref c_NoSkin) (.ref c_Barred) = some false
  k_NoSkin_NoStep : PySem.W.kitOne K (.ref c_NoSkin) (.ref c_NoStep) = some false
  k_NoSkin_AtEnd : PySem.W.kitOne K (.ref c_NoSkin) (.ref c_AtEnd) = some false
  k_NoSkin_NotClosed : PySem.W.kitOne K (.ref c_NoSkin) (.ref c_NotClosed) = some false
  k_NoSkin_NotYet : PySem.W.kitOne K (.ref c_NoSkin) (.ref c_NotYet) = some false
  k_NoSkin_NoJoin : PySem.W.kitOne K (.ref c_NoSkin) (.ref c_NoJoin) = some false
  k_NoSkin_BadRow : PySem.W.kitOne K (.ref c_NoSkin) (.ref c_BadRow) = some false
  k_NoSkin_VE : PySem.W.kitOne K (.ref c_NoSkin) (.type "ValueError") = some true
  rd_SkinError : PySem.W.readsIn K c_SkinError (.type "type") = true
  sg_SkinError : PySem.W.specialIn K (.ref c_SkinError) "__getattribute__" = some (some (.builtin "type.__getattribute__"))
  m_SkinError : PySem.W.findCls K (.ref c_SkinError) (.type "type") "__init__" = some (.val (.ref b_SkinError))

/-! ### the law's own helpers -/
theorem itePos {c A B : Prop} [Decidable c] (hc : c) (h : A) : if c then A else B := by
  rw [if_pos hc]
  exact h
theorem iteNeg {c A B : Prop} [Decidable c] (hc : ¬ c) (h : B) : if c then A else B := by
  rw [if_neg hc]
  exact h
theorem bl_true {Q : VK} {b : Bool} {H : Hp} (e : b = true) (h : Q (.bl true) H) : Q (.bl b) H := by
  rw [e]
  exact h
theorem same_new {H : Hp} {p : Addr} {o : HO} (h : H p = none) : Same H (upd H p o) := fun b x e => by
  rw [upd_ne (ne_of_none e h)]
  exact e
theorem same_put {H H' : Hp} {p : Addr} {o : HO} (s : Same H H') (h : H p = none) : Same H (upd H' p o) := fun b x e => by
  rw [upd_ne (ne_of_none e h)]
  exact s b x e
theorem Same.tup {K : PySem.W.Frag} {H H' : Hp} {a : Addr} {xs : List V} (e : Same H H') (h : SqT K H a xs) : SqT K H' a xs := by
  rcases h with (h | ⟨o, h⟩) | h
  · exact .inl (.inl (e _ _ h))
  · exact .inl (.inr ⟨o, e _ _ h⟩)
  · exact .inr h
theorem b01 (b : Bool) : (-(2 ^ 64) < (if b = true then 1 else 0 : Int)) ∧ ((if b = true then 1 else 0 : Int) < 2 ^ 64) := by cases b <;> decide
theorem b01' (b : Bool) : 0 ≤ (if b = true then 1 else 0 : Int) := by cases b <;> decide
/-- the box: three numbers; the third at most n -/
def BoxO (o : HO) (n : Nat) : Prop := ∃ b0 b1 b2 : Int, o = .lst [.int b0, .int b1, .int b2] ∧ 0 ≤ b0 ∧ 0 ≤ b1 ∧ b1 < 2147483629 ∧ 0 ≤ b2 ∧ b2 ≤ n
theorem BoxO.mono {o : HO} {n m : Nat} (h : BoxO o n) (l : n ≤ m) : BoxO o m := by
  obtain ⟨b0, b1, b2, e, h0, h1, h2, h3, h4⟩ := h
  exact ⟨b0, b1, b2, e, h0, h1, h2, h3, by omega⟩
section
variable {P : Program} {w : World} {K : PySem.W.Frag} {mg : Str → Option Value} {base : Heap}
def spBox (K : PySem.W.Frag) : Sp := fun vs H Q _ => ∃ (a : Addr) (cs : List Int) (k : Nat), vs = [.ref a, .int k] ∧ SqL K H a (cs.map V.int) ∧ k ≤ 1000 ∧ ∀ p o, H p = none → BoxO o 0 → Q (.ref p) (upd H p o)
theorem ok_Lbox (T : Tx K mg) : FnOk P w K mg base CX0 1 T.a_Lbox T.f_Lbox ["_law_cells", "_law_k"] (spBox K) := by
  refine T.d_Lbox.F.ok sc_Lbox (fun vs H Q E h => ?_) (fun cdv A outer s H vs Q E hr h => ?_)
  · obtain ⟨a, cs, k, rfl, _⟩ := h
    rfl
  · obtain ⟨a, cs, k, rfl, hs, hk, q⟩ := h
    refine ⟨_, (pss_cons
    (ps_set (i := 2) sc_Lbox.nd rfl (.inl rfl) (pe_ifExp (pt_cmpR op_lt (pv 1) (pe_callB call_len_seq (by rfl) T.z_len (by decide +kernel) (pa_cons (pv 0) pa_nil)) (nomark _)) (pe_ix ix_list (pv 0) (pv 1) (fun _ _ => rfl)) pe_int))
    (pss_one
    (ps_ret (pe_lst (pa_cons (pe_op op_mul (pe_callB call_abs (by rfl) T.z_abs (by decide +kernel) (pa_cons (pv 2) pa_nil)) (pe_callTy call_int1 (by rfl) T.z_int (by decide +kernel) (pa_cons (pe_cmpR op_ge (pe_callB call_abs (by rfl) T.z_abs (by decide +kernel) (pa_cons (pv 2) pa_nil)) (pe_op op_pow pe_int pe_int) (nomark _)) pa_nil))) (pa_cons (pe_op op_mod (pe_op op_add (pv 2) (pe_op op_mul pe_int (pv 1))) pe_int) (pa_cons pe_int pa_nil))))))), ?_⟩
    have rest : ∀ c : Int, (tRet (tLst (tCons (tOp (rI CMul fun i j => .int (i * j)) (tCB (fun xs H Q => ∃ i, xs = [.int i] ∧ Q (.int (if i < 0 then -i else i)) H) (tCons (tVar 2) tNil)) (tCB (fun xs H Q => (∃ i, xs = [.int i] ∧ Q (.int i) H) ∨ ∃ k, xs = [.bl k] ∧ Q (.int (if k then 1 else 0)) H) (tCons (tOp (rI0 fun i j => .bl (decide (j ≤ i))) (tCB (fun xs H Q => ∃ i, xs = [.int i] ∧ Q (.int (if i < 0 then -i else i)) H) (tCons (tVar 2) tNil)) (tOp (rI CPow fun i j => .int (i ^ j.toNat)) (tC (.int 10)) (tC (.int 18)))) tNil)))
        (tCons (tOp (rI (fun _ j => 0 < j) fun i j => .int (i % j)) (tOp (rI0 fun i j => .int (i + j)) (tVar 2) (tOp (rI CMul fun i j => .int (i * j)) (tC (.int 7907)) (tVar 1))) (tC (.int 2147483629))) (tCons (tC (.int 0)) tNil))))) { nx := fun _ H' => Q .non H', rt := Q } [some (.ref a), some (.int k), some (.int c)] H := by
      intro c
      have hab : 0 ≤ (if c < 0 then -c else c) := by split <;> omega
      refine ⟨_, rfl, _, rfl, _, rfl, _, rfl, _, _, rfl, rfl, ⟨by decide, by decide, by decide⟩, _, _, rfl, rfl, .inr ⟨_, rfl, _, _, rfl, rfl, ?_, ?_⟩⟩
      · exact .inr (b01 _)
      · refine ⟨_, rfl, _, rfl, _, _, rfl, rfl, .inl ⟨by decide, by decide⟩, _, _, rfl, rfl, _, _, rfl, rfl, (show (0 : Int) < 2147483629 by decide), by show 3 ≤ sizeLine; decide, fun p hp => ?_⟩
        refine q p _ hp ⟨_, _, 0, rfl, ?_, Int.emod_nonneg _ (by decide), Int.emod_lt_of_pos _ (by decide), by decide, by decide⟩
        exact Int.mul_nonneg hab (b01' _)
    refine ⟨_, rfl, _, rfl, a, _, rfl, .inl hs, _, _, rfl, rfl, _, rfl, ite2 (fun e => ?_) (fun e => ?_)⟩
    · have hlt : k < cs.length := by
        have := of_decide_eq_true e
        rw [List.length_map] at this
        omega
      refine ⟨_, rfl, _, rfl, a, _, _, .int cs[k], rfl, rfl, hs, atI_nat (by rw [List.getElem?_map, List.getElem?_eq_getElem hlt]; rfl), ?_⟩
      exact rest _
    · exact rest 0
def spTake : Sp := fun vs H Q _ => ∃ (a : Addr) (o : HO) (n : Nat) (m : Int), vs = [.ref a, .int m] ∧ H a = some o ∧ BoxO o n ∧ n < 2 ^ 40 ∧ 0 < m ∧ m.natAbs < 2 ^ 8000 ∧ ∀ (r : Int) (o' : HO), 0 ≤ r → r < m → BoxO o' (n + 1) → Q (.int r) (upd H a o')
theorem ok_Ltake (T : Tx K mg) : FnOk P w K mg base CX0 1 T.a_Ltake T.f_Ltake ["_law_box_here", "_law_many"] spTake := by
  refine T.d_Ltake.F.ok sc_Ltake (fun vs H Q E h => ?_) (fun cdv A outer s H vs Q E hr h => ?_)
  · obtain ⟨a, o, n, m, rfl, _⟩ := h
    rfl
  · obtain ⟨a, o, n, m, rfl, ho, ⟨b0, b1, b2, rfl, h0, h1, h2, h3, h4⟩, hn, hm, hw, q⟩ := h
    refine ⟨_, (pss_cons
    (ps_if (pt_cmpR op_gt (pe_ix ix_list (pv 0) pe_int (fun _ _ => rfl)) pe_int (nomark _)) (pss_cons
        (ps_set (i := 2) sc_Ltake.nd rfl (.inl rfl) (pe_op op_mod (pe_ix ix_list (pv 0) pe_int (fun _ _ => rfl)) (pv 1)))
        (pss_cons
        (ps_asg (pe_op op_fdivW (pe_ix ix_list (pv 0) pe_int (fun _ _ => rfl)) (pv 1)) (pg_sub (pv 0) pe_int set_list))
        (pss_one
        (ps_ret (pv 2))))) pss_nil)
    (pss_cons
    (ps_asg (pe_op op_add (pe_ix ix_list (pv 0) pe_int (fun _ _ => rfl)) pe_int) (pg_sub (pv 0) pe_int set_list))
    (pss_cons
    (ps_set (i := 3) sc_Ltake.nd rfl (.inl rfl) (pe_op op_mod (pe_op op_mul (pe_op op_add (pe_ix ix_list (pv 0) pe_int (fun _ _ => rfl)) (pe_op op_mul pe_int (pe_ix ix_list (pv 0) pe_int (fun _ _ => rfl)))) pe_int) pe_int))
    (pss_cons
    (ps_set (i := 4) sc_Ltake.nd rfl (.inl rfl) (pe_op op_mod (pe_op op_add (pv 3) (pe_op op_mul (pe_op op_mul (pe_ix ix_list (pv 0) pe_int (fun _ _ => rfl)) (pe_ix ix_list (pv 0) pe_int (fun _ _ => rfl))) pe_int)) pe_int))
    (pss_one
    (ps_ret (pe_op op_mod (pe_op op_fdivW (pe_op op_mod (pe_op op_mul (pe_op op_mod (pe_op op_pow (pv 4) pe_int) pe_int) pe_int) pe_int) pe_int) (pv 1)))))))), ?_⟩
    refine ⟨_, rfl, _, _, _, _, rfl, rfl, SqL.of ho, atI_nat (j := 0) rfl, _, _, rfl, rfl, _, rfl, ite2 (fun e => ?_) (fun e => ?_)⟩
    · refine ⟨_, rfl, _, _, _, _, rfl, rfl, SqL.of ho, atI_nat (j := 0) rfl, _, rfl, _, _, rfl, rfl, hm, ?_⟩
      refine ⟨_, rfl, _, _, _, _, rfl, rfl, SqL.of ho, atI_nat (j := 0) rfl, _, rfl, _, _, rfl, rfl, wide_div hm hw (by decide) (by decide), _, rfl, a, _, _, 0, rfl, rfl, ho, rfl, ?_⟩
      exact ⟨_, rfl, q _ _ (Int.emod_nonneg _ (by omega)) (Int.emod_lt_of_pos _ hm) ⟨b0 / m, b1, b2, rfl, Int.ediv_nonneg h0 (by omega), h1, h2, h3, by omega⟩⟩
    · have hb2 : b2 + 1 < 2 ^ 41 := by
        have : (n : Int) < 2 ^ 40 := by exact_mod_cast hn
        omega
      refine ⟨_, rfl, _, _, _, _, rfl, rfl, SqL.of ho, atI_nat (j := 2) rfl, _, _, rfl, rfl, _, rfl, a, _, _, 2, rfl, rfl, ho, rfl, ?_⟩
      have S1 : SqL K (upd H a (.lst [.int b0, .int b1, .int (b2 + 1)])) a [.int b0, .int b1, .int (b2 + 1)] := SqL.of upd_same
      refine ⟨_, rfl, _, _, _, _, rfl, rfl, S1, atI_nat (j := 1) rfl, _, rfl, _, _, _, _, rfl, rfl, S1, atI_nat (j := 2) rfl, _, _, rfl, rfl, .inl ⟨by decide, by decide⟩, _, _, rfl, rfl, _, _, rfl, rfl, .inr ⟨by decide, by decide⟩, _, _, rfl, rfl, (show (0 : Int) < 2147483647 by decide), ?_⟩
      refine ⟨_, rfl, _, rfl, _, _, _, _, rfl, rfl, S1, atI_nat (j := 2) rfl, _, rfl, _, _, _, _, rfl, rfl, S1, atI_nat (j := 2) rfl, _, _, rfl, rfl, .inl ⟨by omega, by omega⟩, _, _, rfl, rfl, .inr ⟨by decide, by decide⟩, _, _, rfl, rfl, _, _, rfl, rfl, (show (0 : Int) < 2147483587 by decide), ?_⟩
      refine ⟨_, rfl, _, _, rfl, rfl, ⟨by decide, by decide, ?_⟩, _, _, rfl, rfl, (show (0 : Int) < 1999999973 by decide), _, _, rfl, rfl, .inr ⟨by decide, by decide⟩, _, _, rfl, rfl, (show (0 : Int) < 2147483563 by decide), _, _, rfl, rfl, wide_div (b := 7) (by decide) (by decide) (by decide) (by decide), _, rfl, _, _, rfl, rfl, hm, ?_⟩
      · generalize hx : (((b1 + 40009 * (b2 + 1)) * 48271 % 2147483647 + (b2 + 1) * (b2 + 1) * 7919) : Int) = x
        have y1 := Int.emod_nonneg x (show (2147483587 : Int) ≠ 0 by decide)
        have y2 := Int.emod_lt_of_pos x (show (0 : Int) < 2147483587 by decide)
        show (x % 2147483587).natAbs < 2 ^ 64
        omega
      · exact q _ _ (Int.emod_nonneg _ (by omega)) (Int.emod_lt_of_pos _ hm) ⟨b0, b1, b2 + 1, rfl, h0, h1, h2, by omega, by omega⟩
end

section
variable {P : Program} {w : World} {K : PySem.W.Frag} {mg : Str → Option Value} {base : Heap}
theorem cut_int {ns : List Int} {lo hi : Option Int} {i : Nat} {x : V} (h : (cutV (ns.map V.int) lo hi)[i]? = some x) : ∃ n : Int, x = .int n := by
  have hm := List.mem_of_getElem? h
  unfold cutV at hm
  have h2 := List.mem_of_mem_drop (List.mem_of_mem_take hm)
  obtain ⟨n, _, e⟩ := List.mem_map.mp h2
  exact ⟨n, e.symm⟩
theorem cut_lo {ns : List Int} {m : Nat} {hi : Option Int} {i : Nat} (h : i < (cutV (ns.map V.int) (some (m : Int)) hi).length) : m < ns.length := by
  unfold cutV at h
  rw [List.length_take, List.length_drop, HT.sIx_nat, List.length_map] at h
  omega
theorem cut_to {ns : List Int} {m : Nat} : cutV (ns.map V.int) none (some (m : Int)) = (ns.take m).map V.int := by
  unfold cutV
  rw [HT.sIx_none, HT.sIx_nat, List.drop_zero, Nat.sub_zero, List.map_take, List.length_map]
  rcases Nat.le_total m ns.length with h | h
  · rw [Nat.min_eq_left h]
  · rw [Nat.min_eq_right h, List.take_of_length_le (by simp), List.take_of_length_le (by simpa using h)]
def spFold (K : PySem.W.Frag) : Sp := fun vs H Q _ => ∃ (a : Addr) (ns : List Int) (m : Nat), vs = [.ref a, .int m] ∧ SqL K H a (ns.map V.int) ∧ ns.length ≤ 63 ∧ 0 < m ∧ m ≤ 63 ∧ ∀ H' p (cs : List Int), Same H H' → H p = none → H' p = some (.lst (cs.map V.int)) → cs.length ≤ m → Q (.ref p) H'
theorem ok_Lfolded (T : Tx K mg) : FnOk P w K mg base CX0 1 T.a_Lfolded T.f_Lfolded ["_law_script", "_law_many"] (spFold K) := by
  refine T.d_Lfolded.F.ok sc_Lfolded (fun vs H Q E h => ?_) (fun cdv A outer s H vs Q E hr h => ?_)
  · obtain ⟨a, cs, k, rfl, _⟩ := h
    rfl
  · obtain ⟨a, ns, m, rfl, hS, hl, hm, hm2, q⟩ := h
    have hm' : (0 : Int) < (m : Int) := by omega
    refine ⟨_, (pss_cons
    (ps_set (i := 2) sc_Lfolded.nd rfl (.inl rfl) (pe_callTy call_list_of (by rfl) T.z_list (by decide +kernel) (pa_cons (pe_slice sl_list (pv 0) po_none (po_some (pv 1))) pa_nil)))
    (pss_cons
    (ps_for PassesOwn.never rfl (pi_enum (by rfl) T.z_enumerate (pa_cons (pe_slice sl_list (pv 0) (po_some (pv 1)) (po_some pe_int)) pa_nil)) (pg_tup rfl (pgs_cons (pg_name (i := 3) sc_Lfolded.nd rfl (.inl rfl)) (pgs_cons (pg_name (i := 4) sc_Lfolded.nd rfl (.inl rfl)) pgs_nil))) (pss_one
        (ps_asg (pe_op op_add (pe_ix ix_list (pv 2) (pe_op op_mod (pv 3) (pv 1)) (fun _ _ => rfl)) (pe_op op_mul (pv 4) (pe_op op_add (pv 3) pe_int))) (pg_sub (pv 2) (pe_op op_mod (pv 3) (pv 1)) set_list))))
    (pss_one
    (ps_ret (pv 2))))), ?_⟩
    refine ⟨_, rfl, _, rfl, m, rfl, a, _, rfl, hS, fun u hu => ⟨u, _, rfl, .inl (SqL.of upd_same), fun c hc => ?_⟩⟩
    rw [cut_to] at *
    have s1 : Same H (upd (upd H u (.lst ((ns.take m).map V.int))) c (.lst ((ns.take m).map V.int))) := same_put (same_new hu) ((same_new hu).free hc)
    have nc : H c = none := (same_new hu).free hc
    refine ⟨_, rfl, _, rfl, _, rfl, 63, rfl, a, _, rfl, Same.seq s1 hS, fun d hd => ⟨d, _, rfl, SqL.of upd_same, ?_⟩⟩
    have ndc : d ≠ c := fun e => by
      subst e
      rw [upd_same] at hd
      cases hd
    refine for_it (walk_enum (xs := cutV (ns.map V.int) (some (m : Int)) (some 63))) (fun i σ H3 => ∃ (cs : List Int) (y3 y4 : Option V), σ = [some (.ref a), some (.int m), some (.ref c), y3, y4] ∧ Same H H3 ∧ H3 c = some (.lst (cs.map V.int)) ∧ cs.length = min m ns.length ∧ H3 d = some (.lst (cutV (ns.map V.int) (some (m : Int)) (some 63))))
      ⟨ns.take m, none, none, rfl, s1.trans (same_new hd), ?_, by simp, upd_same⟩ (fun i σ H3 _ h => ?_) (fun i x σ H3 H4 hi h hy => ?_) (fun σ H3 h => ?_)
    · rw [upd_ne ndc.symm, upd_same]
    · obtain ⟨cs, y3, y4, _, _, _, _, h5⟩ := h
      exact SqL.of h5
    · obtain ⟨cs, y3, y4, rfl, sm, hcs, hcl, hd3⟩ := h
      obtain ⟨t, x1, x2, rfl, nt, rfl, e1, e2⟩ := hy
      cases e1
      obtain ⟨v, rfl⟩ := cut_int e2
      have hmn := cut_lo hi
      have hcm : cs.length = m := by omega
      refine ⟨t, _, rfl, SqT.of upd_same, rfl, _, _, rfl, _, _, rfl, rfl, ?_⟩
      have hct : (upd H3 t (.tup [V.int (i : Nat), .int v])) c = some (.lst (cs.map V.int)) := by
        rw [upd_ne (ne_of_none hcs nt)]
        exact hcs
      have hj0 : (i : Int) % (m : Int) = ((i % m : Nat) : Int) := by simp
      have hj1 : i % m < cs.length := by rw [hcm]; exact Nat.mod_lt _ hm
      have hb : (i : Int) < 1000 := by
        have h1 := cutV_length (ns.map V.int) (some (m : Int)) (some 63)
        rw [List.length_map] at h1
        omega
      refine ⟨_, rfl, _, rfl, _, rfl, _, _, rfl, rfl, hm', c, _, _, .int cs[i % m], rfl, rfl, SqL.of hct, ?_, ?_⟩
      · rw [hj0]
        exact atI_nat (by rw [List.getElem?_map, List.getElem?_eq_getElem hj1]; rfl)
      · refine ⟨_, rfl, _, rfl, _, _, rfl, rfl, _, _, rfl, rfl, .inr ⟨by omega, by omega⟩, _, _, rfl, rfl, _, rfl, _, rfl, _, rfl, _, _, rfl, rfl, hm', c, _, _, i % m, rfl, rfl, hct, ?_, ?_⟩
        · rw [hj0, List.length_map]
          unfold ixN
          rw [if_pos (by omega), if_pos (by omega), Int.toNat_natCast]
        · refine ⟨cs.set (i % m) (cs[i % m] + v * ((i : Int) + 2)), _, _, rfl, ?_, ?_, ?_, ?_⟩
          · exact same_put (sm.trans (same_new nt)) nc
          · rw [upd_same, List.map_set]
          · rw [List.length_set]
            exact hcl
          · rw [upd_ne ndc, upd_ne (ne_of_none hd3 nt)]
            exact hd3
    · obtain ⟨cs, y3, y4, rfl, sm, hcs, hcl, _⟩ := h
      exact ⟨_, rfl, q _ _ cs sm nc hcs (by omega)⟩
end

section
variable {P : Program} {w : World} {K : PySem.W.Frag} {mg : Str → Option Value} {base : Heap}
theorem walk_zipT {a b : Addr} {xs ys : List V} {n : Nat} (hn : n = min xs.length ys.length) : Walk (RZ.ItzT K a b) n (fun H => SqT K H a xs ∧ SqT K H b ys) (YPair (fun i => xs[i]?) (fun i => ys[i]?)) := by
  subst hn
  refine ⟨fun i _ hi q => ?_, fun _ q => ⟨xs, ys, q.1, q.2, by omega⟩, fun i H v H' _ q y => ?_⟩
  · have h1 : i < xs.length := by omega
    have h2 : i < ys.length := by omega
    exact ⟨xs, ys, xs[i], ys[i], q.1, q.2, by simp [h1], by simp [h2]⟩
  · obtain ⟨T, x, z, h1, h2, h3, h4, h5⟩ := y
    exact ⟨T, x, z, h1, h2, h3, h4 xs q.1, h5 ys q.2⟩
theorem rd_isi {H : Hp} {x : V} {tn c : String} {b : Bool} {Q : VK} (ty : TyX K H x (.type tn)) (h : kitB tn c = some b) (q : Q (.bl b) H) : rIsi K [x, .ty c] H Q := ⟨x, .ty c, .type tn, .type c, b, rfl, .ty c, ty, kit_ty h, q⟩
theorem kit2 {tn c1 c2 : String} {b1 b2 : Bool} (h1 : kitB tn c1 = some b1) (h2 : kitB tn c2 = some b2) : PySem.W.kitAny K (.type tn) [.type c1, .type c2] = some (b1 || b2) :=
  kitAny_cons (kit_ty h1) (fun e => by
    subst e
    exact kitAny_cons (kit_ty h2) (fun e => by subst e; exact kitAny_nil) (fun e => by subst e; rfl)) (fun e => by subst e; rfl)
theorem rd_isiT {H : Hp} {x : V} {tn c1 c2 : String} {b1 b2 : Bool} {tp : Addr} {Q : VK} (ht : H tp = some (.tup [.ty c1, .ty c2])) (ty : TyX K H x (.type tn)) (h1 : kitB tn c1 = some b1) (h2 : kitB tn c2 = some b2) (q : Q (.bl (b1 || b2)) H) : rIsiT K [x, .ref tp] H Q :=
  ⟨x, tp, _, .type tn, [.type c1, .type c2], _, rfl, ht, .cons (.ty c1) (.cons (.ty c2) .nil), ty, kit2 h1 h2, q⟩
/-- the same data, kind by kind, less than n deep -/
def Dt (H : Hp) : Nat → V → V → Prop
  | 0, _, _ => False
  | n + 1, x, y => (x = y ∧ (x = .non ∨ (∃ b, x = .bl b) ∨ (∃ i, x = .int i) ∨ (∃ z, x = .str z))) ∨
    ∃ a b xs ys, x = .ref a ∧ y = .ref b ∧ ((H a = some (.lst xs) ∧ H b = some (.lst ys)) ∨ (H a = some (.tup xs) ∧ H b = some (.tup ys))) ∧ xs.length = ys.length ∧ xs.length < 100000 ∧ ∀ (i : Nat) (u v : V), xs[i]? = some u → ys[i]? = some v → Dt H n u v
theorem Dt.mono {H H' : Hp} (s : Same H H') : ∀ {n : Nat} {x y : V}, Dt H n x y → Dt H' n x y
  | 0, _, _, h => h
  | n + 1, x, y, h => by
    rcases h with h | ⟨a, b, xs, ys, e1, e2, h, hl, hz, hd⟩
    · exact .inl h
    · refine .inr ⟨a, b, xs, ys, e1, e2, ?_, hl, hz, fun i u v h1 h2 => (hd i u v h1 h2).mono s⟩
      rcases h with ⟨h1, h2⟩ | ⟨h1, h2⟩
      · exact .inl ⟨s _ _ h1, s _ _ h2⟩
      · exact .inr ⟨s _ _ h1, s _ _ h2⟩
theorem Dt.int {H : Hp} {n : Nat} (i : Int) : Dt H (n + 1) (.int i) (.int i) := .inl ⟨rfl, .inr (.inr (.inl ⟨i, rfl⟩))⟩
theorem Dt.bl {H : Hp} {n : Nat} (b : Bool) : Dt H (n + 1) (.bl b) (.bl b) := .inl ⟨rfl, .inr (.inl ⟨b, rfl⟩)⟩
theorem Dt.str {H : Hp} {n : Nat} (z : Str) : Dt H (n + 1) (.str z) (.str z) := .inl ⟨rfl, .inr (.inr (.inr ⟨z, rfl⟩))⟩
theorem Dt.non {H : Hp} {n : Nat} : Dt H (n + 1) .non .non := .inl ⟨rfl, .inl rfl⟩
def spSame (n : Nat) : Sp := fun vs H Q _ => ∃ x y : V, vs = [x, y] ∧ Dt H n x y ∧ ∀ H', Same H H' → Q (.bl true) H'
theorem ok_Lsame (T : Tx K mg) : ∀ n : Nat, FnOk P w K mg base CX0 (n + 1) T.a_Lsame T.f_Lsame ["_law_found", "_law_due"] (spSame n)
  | 0 => T.d_Lsame.F.ok sc_Lsame (fun vs H Q E h => h.elim fun _ h => h.elim fun _ h => h.2.1.elim) (fun cdv A outer s H vs Q E hr h => h.elim fun _ h => h.elim fun _ h => h.2.1.elim)
  | n + 1 => by
    have G_Lsame : FnOk P w K mg base CX0 (n + 1) T.a_Lsame T.f_Lsame ["_law_found", "_law_due"] (spSame n) := ok_Lsame T n
    refine T.d_Lsame.F.ok sc_Lsame (fun vs H Q E h => ?_) (fun cdv A outer s H vs Q E hr h => ?_)
    · obtain ⟨x, y, rfl, _⟩ := h
      rfl
    · obtain ⟨x, y, rfl, hd, q⟩ := h
      refine ⟨_, (pss_cons
    (ps_if (pt_val (pe_callB call_isiT (by rfl) T.z_isinstance (by decide +kernel) (pa_cons (pv 1) (pa_cons (pe_tup (pa_cons (pe_bltn (v := .ty "list") (by rfl) T.z_list (by decide +kernel) rfl) (pa_cons (pe_bltn (v := .ty "tuple") (by rfl) T.z_tuple (by decide +kernel) rfl) pa_nil))) pa_nil)))) (pss_cons
        (ps_if (PW.pt (pw_or (pt_cmpR op_ne (pe_callB call_isi (by rfl) T.z_isinstance (by decide +kernel) (pa_cons (pv 0) (pa_cons (pe_bltn (v := .ty "list") (by rfl) T.z_list (by decide +kernel) rfl) pa_nil))) (pe_callB call_isi (by rfl) T.z_isinstance (by decide +kernel) (pa_cons (pv 1) (pa_cons (pe_bltn (v := .ty "list") (by rfl) T.z_list (by decide +kernel) rfl) pa_nil))) (nomark _)) (pw_or1 (pt_cmpR op_ne (pe_callB call_isi (by rfl) T.z_isinstance (by decide +kernel) (pa_cons (pv 0) (pa_cons (pe_bltn (v := .ty "tuple") (by rfl) T.z_tuple (by decide +kernel) rfl) pa_nil))) (pe_callB call_isi (by rfl) T.z_isinstance (by decide +kernel) (pa_cons (pv 1) (pa_cons (pe_bltn (v := .ty "tuple") (by rfl) T.z_tuple (by decide +kernel) rfl) pa_nil))) (nomark _))))) (pss_one
            (ps_ret pe_bl)) pss_nil)
        (pss_one
        (ps_ret (pe_and (pe_cmpR op_eq (pe_callB call_len_seq (by rfl) T.z_len (by decide +kernel) (pa_cons (pv 0) pa_nil)) (pe_callB call_len_seq (by rfl) T.z_len (by decide +kernel) (pa_cons (pv 1) pa_nil)) (nomark _)) (pe_one (pe_callB (cr_all rfl) (by rfl) T.z_all (by decide +kernel) (pa_cons (pe_lc (own := [("_law_one", 2), ("_law_other", 3)]) (g := (gTup K 2 (gCons (gName 2) (gCons (gName 3) gNil)))) (tt := tYes) rfl sc_Lsame.nd (RZ.pi_zipA (by rfl) T.z_zip (pa_cons (pv 0) (pa_cons (pv 1) pa_nil))) (blkOk_by (own := [("_law_one", 2), ("_law_other", 3)]) (N := ["_law_found", "_law_due", "_law_one", "_law_other"]) (sc := defScope s_Lsame) (by decide +kernel)) (fun _ _ _ _ _ => (pg_tup rfl (pgs_cons (pg_name (i := 2) sc_Lsame.nd rfl (.inl rfl) (.inr rfl)) (pgs_cons (pg_name (i := 3) sc_Lsame.nd rfl (.inl rfl) (.inr rfl)) pgs_nil)))) (fun _ _ _ _ _ => pts_nil) (fun _ _ _ _ _ => (pe_call G_Lsame hr (by rfl) T.d_Lsame.g T.d_Lsame.F.kp T.d_Lsame.b .nil pass0 (pa_cons (pv 2) (pa_cons (pv 3) pa_nil))))) pa_nil))))))) pss_nil)
    (pss_cons
    (ps_if (pt_cmpR op_isN (pv 1) pe_non (nomark _)) (pss_one
        (ps_ret (pe_cmpR op_isN (pv 0) pe_non (nomark _)))) pss_nil)
    (pss_cons
    (ps_if (pt_val (pe_callB call_isiT (by rfl) T.z_isinstance (by decide +kernel) (pa_cons (pv 1) (pa_cons (pe_tup (pa_cons (pe_bltn (v := .ty "str") (by rfl) T.z_str (by decide +kernel) rfl) (pa_cons (pe_bltn (v := .ty "bool") (by rfl) T.z_bool (by decide +kernel) rfl) pa_nil))) pa_nil)))) (pss_one
        (ps_ret (pe_and (pe_cmpR op_eq (pe_callB call_isi (by rfl) T.z_isinstance (by decide +kernel) (pa_cons (pv 0) (pa_cons (pe_bltn (v := .ty "str") (by rfl) T.z_str (by decide +kernel) rfl) pa_nil))) (pe_callB call_isi (by rfl) T.z_isinstance (by decide +kernel) (pa_cons (pv 1) (pa_cons (pe_bltn (v := .ty "str") (by rfl) T.z_str (by decide +kernel) rfl) pa_nil))) (nomark _)) (pe_and (pe_callB call_isiT (by rfl) T.z_isinstance (by decide +kernel) (pa_cons (pv 0) (pa_cons (pe_tup (pa_cons (pe_bltn (v := .ty "str") (by rfl) T.z_str (by decide +kernel) rfl) (pa_cons (pe_bltn (v := .ty "bool") (by rfl) T.z_bool (by decide +kernel) rfl) pa_nil))) pa_nil))) (pe_one (pe_cmpR op_eq (pv 0) (pv 1) (nomark _))))))) pss_nil)
    (pss_one
    (ps_ret (pe_and (pe_callB call_isi (by rfl) T.z_isinstance (by decide +kernel) (pa_cons (pv 0) (pa_cons (pe_bltn (v := .ty "int") (by rfl) T.z_int (by decide +kernel) rfl) pa_nil))) (pe_and (pe_not (pe_callB call_isi (by rfl) T.z_isinstance (by decide +kernel) (pa_cons (pv 0) (pa_cons (pe_bltn (v := .ty "bool") (by rfl) T.z_bool (by decide +kernel) rfl) pa_nil)))) (pe_one (pe_cmpR op_eq (pv 0) (pv 1) (nomark _)))))))))), ?_⟩
      rcases hd with ⟨rfl, hk⟩ | ⟨a, b, xs, ys, rfl, rfl, hk, hl, hz, hd⟩
      · rcases hk with rfl | ⟨b, rfl⟩ | ⟨i, rfl⟩ | ⟨z, rfl⟩
        · refine ⟨_, rfl, by show 2 ≤ sizeLine; decide, fun t ht => ⟨_, _, _, _, _, _, rfl, upd_same, .cons (.ty _) (.cons (.ty _) .nil), (.base .non), kit2 (b1 := false) (b2 := false) (by decide +kernel) (by decide +kernel), _, rfl, iteF ?_⟩⟩
          refine ⟨_, rfl, rfl, _, rfl, itePos (by decide) ?_⟩
          refine ⟨_, rfl, rfl, ?_⟩
          exact q _ (same_new ht)
        · refine ⟨_, rfl, by show 2 ≤ sizeLine; decide, fun t ht => ⟨_, _, _, _, _, _, rfl, upd_same, .cons (.ty _) (.cons (.ty _) .nil), (.base (.bl b)), kit2 (b1 := false) (b2 := false) (by decide +kernel) (by decide +kernel), _, rfl, iteF ?_⟩⟩
          refine ⟨_, rfl, rfl, _, rfl, iteNeg (by simp) ?_⟩
          refine ⟨_, rfl, by show 2 ≤ sizeLine; decide, fun t2 ht2 => ⟨_, _, _, _, _, _, rfl, upd_same, .cons (.ty _) (.cons (.ty _) .nil), (.base (.bl b)), kit2 (b1 := false) (b2 := true) (by decide +kernel) (by decide +kernel), _, rfl, iteT ?_⟩⟩
          refine ⟨_, rfl, ⟨_, _, _, _, _, rfl, .ty _, (.base (.bl b)), kit_ty (r := false) (by decide +kernel), _, rfl, ⟨_, _, _, _, _, rfl, .ty _, (.base (.bl b)), kit_ty (r := false) (by decide +kernel), rfl, _, rfl, iteT ?_⟩⟩⟩
          refine ⟨_, rfl, by show 2 ≤ sizeLine; decide, fun t3 ht3 => ⟨_, _, _, _, _, _, rfl, upd_same, .cons (.ty _) (.cons (.ty _) .nil), (.base (.bl b)), kit2 (b1 := false) (b2 := true) (by decide +kernel) (by decide +kernel), _, rfl, iteT ?_⟩⟩
          refine ⟨_, rfl, _, rfl, by cases b <;> rfl, ?_⟩
          exact bl_true (decide_eq_true rfl) <| q _ (((same_new ht).trans (same_new ht2)).trans (same_new ht3))
        · refine ⟨_, rfl, by show 2 ≤ sizeLine; decide, fun t ht => ⟨_, _, _, _, _, _, rfl, upd_same, .cons (.ty _) (.cons (.ty _) .nil), (.base (.int i)), kit2 (b1 := false) (b2 := false) (by decide +kernel) (by decide +kernel), _, rfl, iteF ?_⟩⟩
          refine ⟨_, rfl, rfl, _, rfl, iteNeg (by simp) ?_⟩
          refine ⟨_, rfl, by show 2 ≤ sizeLine; decide, fun t2 ht2 => ⟨_, _, _, _, _, _, rfl, upd_same, .cons (.ty _) (.cons (.ty _) .nil), (.base (.int i)), kit2 (b1 := false) (b2 := false) (by decide +kernel) (by decide +kernel), _, rfl, iteF ?_⟩⟩
          refine ⟨_, rfl, ⟨_, _, _, _, _, rfl, .ty _, (.base (.int i)), kit_ty (r := true) (by decide +kernel), _, rfl, iteT ?_⟩⟩
          refine ⟨_, rfl, ⟨_, _, _, _, _, rfl, .ty _, (.base (.int i)), kit_ty (r := false) (by decide +kernel), _, rfl, _, rfl, iteT ?_⟩⟩
          refine ⟨_, rfl, _, rfl, rfl, ?_⟩
          exact bl_true (decide_eq_true rfl) <| q _ ((same_new ht).trans (same_new ht2))
        · refine ⟨_, rfl, by show 2 ≤ sizeLine; decide, fun t ht => ⟨_, _, _, _, _, _, rfl, upd_same, .cons (.ty _) (.cons (.ty _) .nil), (.base (.str z)), kit2 (b1 := false) (b2 := false) (by decide +kernel) (by decide +kernel), _, rfl, iteF ?_⟩⟩
          refine ⟨_, rfl, rfl, _, rfl, iteNeg (by simp) ?_⟩
          refine ⟨_, rfl, by show 2 ≤ sizeLine; decide, fun t2 ht2 => ⟨_, _, _, _, _, _, rfl, upd_same, .cons (.ty _) (.cons (.ty _) .nil), (.base (.str z)), kit2 (b1 := true) (b2 := false) (by decide +kernel) (by decide +kernel), _, rfl, iteT ?_⟩⟩
          refine ⟨_, rfl, ⟨_, _, _, _, _, rfl, .ty _, (.base (.str z)), kit_ty (r := true) (by decide +kernel), _, rfl, ⟨_, _, _, _, _, rfl, .ty _, (.base (.str z)), kit_ty (r := true) (by decide +kernel), rfl, _, rfl, iteT ?_⟩⟩⟩
          refine ⟨_, rfl, by show 2 ≤ sizeLine; decide, fun t3 ht3 => ⟨_, _, _, _, _, _, rfl, upd_same, .cons (.ty _) (.cons (.ty _) .nil), (.base (.str z)), kit2 (b1 := true) (b2 := false) (by decide +kernel) (by decide +kernel), _, rfl, iteT ?_⟩⟩
          refine ⟨_, rfl, _, rfl, rfl, ?_⟩
          exact bl_true (decide_eq_true rfl) <| q _ (((same_new ht).trans (same_new ht2)).trans (same_new ht3))
      · have elen : decide (V.int ((xs.length : Nat) : Int) = V.int ((ys.length : Nat) : Int)) = true := decide_eq_true (by rw [hl])
        rcases hk with ⟨ha, hb⟩ | ⟨ha, hb⟩
        · refine ⟨_, rfl, by show 2 ≤ sizeLine; decide, fun t ht => ⟨_, _, _, _, _, _, rfl, upd_same, .cons (.ty _) (.cons (.ty _) .nil), (.base (.lst (same_new ht _ _ hb))), kit2 (b1 := true) (b2 := false) (by decide +kernel) (by decide +kernel), _, rfl, iteT ?_⟩⟩
          have s1 : Same H (upd H t (.tup [.ty "list", .ty "tuple"])) := same_new ht
          generalize upd H t (.tup [.ty "list", .ty "tuple"]) = H1 at s1
          refine ⟨_, rfl, ⟨_, _, _, _, _, rfl, .ty _, (.base (.lst (s1 _ _ ha))), kit_ty (r := true) (by decide +kernel), _, rfl, ⟨_, _, _, _, _, rfl, .ty _, (.base (.lst (s1 _ _ hb))), kit_ty (r := true) (by decide +kernel), rfl, _, rfl, iteNS rfl ?_⟩⟩⟩
          refine ⟨_, rfl, ⟨_, _, _, _, _, rfl, .ty _, (.base (.lst (s1 _ _ ha))), kit_ty (r := false) (by decide +kernel), _, rfl, ⟨_, _, _, _, _, rfl, .ty _, (.base (.lst (s1 _ _ hb))), kit_ty (r := false) (by decide +kernel), rfl, _, rfl, iteNS rfl ?_⟩⟩⟩
          refine ⟨_, rfl, a, xs, rfl, .inl (SqL.of (s1 _ _ ha)), _, rfl, b, ys, rfl, .inl (SqL.of (s1 _ _ hb)), rfl, _, rfl, itePos elen ?_⟩
          refine ⟨_, rfl, _, rfl, a, b, xs, ys, rfl, .inl ⟨SqL.of (s1 _ _ ha), SqL.of (s1 _ _ hb), fun D hD => ?_⟩⟩
          refine lc_it (walk_zip (xs := xs) (ys := ys) (n := xs.length) (by omega)) (fun i H3 => Same H H3 ∧ H3 D = some (.lst ((List.replicate i true).map V.bl))) ⟨s1.trans (same_new hD), upd_same⟩ (fun i H3 _ h => ⟨SqL.of (h.1 _ _ ha), SqL.of (h.1 _ _ hb)⟩) (fun i x H3 H4 hi h hy => ?_) (fun H3 h => ?_)
          · obtain ⟨t, x1, x2, rfl, nt, rfl, e1, e2⟩ := hy
            refine ⟨t, _, rfl, SqT.of upd_same, rfl, _, _, rfl, _, _, rfl, rfl, rfl, ?_⟩
            have s2 := h.1.trans (same_new (o := .tup [x1, x2]) nt)
            refine ⟨_, rfl, _, rfl, x1, x2, rfl, (hd i x1 x2 e1 e2).mono s2, fun H5 s3 => ?_⟩
            refine ⟨_, s3 _ _ (same_new nt _ _ h.2), ?_, ?_⟩
            · rw [List.length_map, List.length_replicate]
              exact Nat.lt_trans hi (Nat.lt_of_lt_of_le hz (by decide))
            · refine ⟨same_put (s2.trans s3) (s1.free hD), ?_⟩
              rw [upd_same, List.replicate_succ', List.map_append]
              rfl
          · refine ⟨D, List.replicate xs.length true, rfl, SqL.of h.2, ?_⟩
            exact bl_true (by simp) <| q _ h.1
        · refine ⟨_, rfl, by show 2 ≤ sizeLine; decide, fun t ht => ⟨_, _, _, _, _, _, rfl, upd_same, .cons (.ty _) (.cons (.ty _) .nil), (.base (.tup (same_new ht _ _ hb))), kit2 (b1 := false) (b2 := true) (by decide +kernel) (by decide +kernel), _, rfl, iteT ?_⟩⟩
          have s1 : Same H (upd H t (.tup [.ty "list", .ty "tuple"])) := same_new ht
          generalize upd H t (.tup [.ty "list", .ty "tuple"]) = H1 at s1
          refine ⟨_, rfl, ⟨_, _, _, _, _, rfl, .ty _, (.base (.tup (s1 _ _ ha))), kit_ty (r := false) (by decide +kernel), _, rfl, ⟨_, _, _, _, _, rfl, .ty _, (.base (.tup (s1 _ _ hb))), kit_ty (r := false) (by decide +kernel), rfl, _, rfl, iteNS rfl ?_⟩⟩⟩
          refine ⟨_, rfl, ⟨_, _, _, _, _, rfl, .ty _, (.base (.tup (s1 _ _ ha))), kit_ty (r := true) (by decide +kernel), _, rfl, ⟨_, _, _, _, _, rfl, .ty _, (.base (.tup (s1 _ _ hb))), kit_ty (r := true) (by decide +kernel), rfl, _, rfl, iteNS rfl ?_⟩⟩⟩
          refine ⟨_, rfl, a, xs, rfl, .inr (SqT.of (s1 _ _ ha)), _, rfl, b, ys, rfl, .inr (SqT.of (s1 _ _ hb)), rfl, _, rfl, itePos elen ?_⟩
          refine ⟨_, rfl, _, rfl, a, b, xs, ys, rfl, .inr ⟨SqT.of (s1 _ _ ha), SqT.of (s1 _ _ hb), fun D hD => ?_⟩⟩
          refine lc_it (walk_zipT (xs := xs) (ys := ys) (n := xs.length) (by omega)) (fun i H3 => Same H H3 ∧ H3 D = some (.lst ((List.replicate i true).map V.bl))) ⟨s1.trans (same_new hD), upd_same⟩ (fun i H3 _ h => ⟨SqT.of (h.1 _ _ ha), SqT.of (h.1 _ _ hb)⟩) (fun i x H3 H4 hi h hy => ?_) (fun H3 h => ?_)
          · obtain ⟨t, x1, x2, rfl, nt, rfl, e1, e2⟩ := hy
            refine ⟨t, _, rfl, SqT.of upd_same, rfl, _, _, rfl, _, _, rfl, rfl, rfl, ?_⟩
            have s2 := h.1.trans (same_new (o := .tup [x1, x2]) nt)
            refine ⟨_, rfl, _, rfl, x1, x2, rfl, (hd i x1 x2 e1 e2).mono s2, fun H5 s3 => ?_⟩
            refine ⟨_, s3 _ _ (same_new nt _ _ h.2), ?_, ?_⟩
            · rw [List.length_map, List.length_replicate]
              exact Nat.lt_trans hi (Nat.lt_of_lt_of_le hz (by decide))
            · refine ⟨same_put (s2.trans s3) (s1.free hD), ?_⟩
              rw [upd_same, List.replicate_succ', List.map_append]
              rfl
          · refine ⟨D, List.replicate xs.length true, rfl, SqL.of h.2, ?_⟩
            exact bl_true (by simp) <| q _ h.1
end

theorem at_ints {xs : List Int} {r : Int} (h0 : 0 ≤ r) (h1 : r < xs.length) : ∃ v, v ∈ xs ∧ atI (xs.map V.int) r = some (.int v) := by
  obtain ⟨j, rfl⟩ := Int.eq_ofNat_of_zero_le h0
  have hj : j < xs.length := by omega
  exact ⟨xs[j], List.getElem_mem hj, atI_nat (by rw [List.getElem?_map, List.getElem?_eq_getElem hj]; rfl)⟩
theorem at_mem {xs : List V} {r : Int} (h0 : 0 ≤ r) (h1 : r < xs.length) : ∃ v, v ∈ xs ∧ atI xs r = some v := by
  obtain ⟨j, rfl⟩ := Int.eq_ofNat_of_zero_le h0
  have hj : j < xs.length := by omega
  exact ⟨xs[j], List.getElem_mem hj, atI_nat (List.getElem?_eq_getElem hj)⟩
/-- all but a stays -/
def But (a : Addr) (H H' : Hp) : Prop := ∀ b o, H b = some o → b ≠ a → H' b = some o
theorem But.trans {a : Addr} {H H1 H2 : Hp} (h : But a H H1) (h' : But a H1 H2) : But a H H2 := fun b o e n => h' b o (h b o e n) n
theorem But.put {a : Addr} {H : Hp} {o : HO} : But a H (upd H a o) := fun b x e n => by
  rw [upd_ne n]
  exact e
theorem But.of {a : Addr} {H H' : Hp} (s : Same H H') : But a H H' := fun b o e _ => s b o e
theorem But.refl {a : Addr} {H : Hp} : But a H H := fun b o e _ => e
theorem getL {α β : Type} {f : α → β} {xs : List α} {i : Nat} {y : β} (h : (xs.map f)[i]? = some y) : ∃ x, xs[i]? = some x ∧ y = f x := by
  rw [List.getElem?_map] at h
  cases e : xs[i]? with
  | none => rw [e] at h; cases h
  | some x => rw [e] at h; exact ⟨x, rfl, (Option.some.inj h).symm⟩
theorem getS {α : Type} {xs : List α} {i : Nat} (h : i < xs.length) : ∃ x, xs[i]? = some x := ⟨xs[i], List.getElem?_eq_getElem h⟩
theorem i_seq {t u : TS} {D : Ends} {σ : L2.St} {H : Hp} (h : t { D with nx := u D } σ H) : tSeq t u D σ H := h
theorem i_asg {te : TE} {g : TG} {D : Ends} {σ : L2.St} {H : Hp} (h : te σ H fun x H1 => g x σ H1 D.nx) : tAsg te g D σ H := h
theorem i_ret {te : TE} {D : Ends} {σ : L2.St} {H : Hp} (h : te σ H D.rt) : tRet te D σ H := h

section
variable {P : Program} {w : World} {K : PySem.W.Frag} {mg : Str → Option Value} {base : Heap}
/-- the class of the i-th refusal -/
def cls (T : Tx K mg) : Nat → Addr
  | 0 => T.c_Barred
  | 1 => T.c_NoStep
  | 2 => T.c_AtEnd
  | 3 => T.c_NotClosed
  | 4 => T.c_NotYet
  | 5 => T.c_NoJoin
  | 6 => T.c_BadRow
  | _ => T.c_NoSkin
theorem cls_see (T : Tx K mg) : ∀ i, EX.See K (cls T i)
  | 0 => T.w_Barred
  | 1 => T.w_NoStep
  | 2 => T.w_AtEnd
  | 3 => T.w_NotClosed
  | 4 => T.w_NotYet
  | 5 => T.w_NoJoin
  | 6 => T.w_BadRow
  | _ + 7 => T.w_NoSkin
theorem cls_skin (T : Tx K mg) : ∀ i, PySem.W.kitOne K (.ref (cls T i)) (.ref T.c_SkinError) = some true
  | 0 => T.k_Barred_SkinError
  | 1 => T.k_NoStep_SkinError
  | 2 => T.k_AtEnd_SkinError
  | 3 => T.k_NotClosed_SkinError
  | 4 => T.k_NotYet_SkinError
  | 5 => T.k_NoJoin_SkinError
  | 6 => T.k_BadRow_SkinError
  | _ + 7 => T.k_NoSkin_SkinError
theorem cls_ve (T : Tx K mg) : ∀ i, PySem.W.kitOne K (.ref (cls T i)) (.type "ValueError") = some true
  | 0 => T.k_Barred_VE
  | 1 => T.k_NoStep_VE
  | 2 => T.k_AtEnd_VE
  | 3 => T.k_NotClosed_VE
  | 4 => T.k_NotYet_VE
  | 5 => T.k_NoJoin_VE
  | 6 => T.k_BadRow_VE
  | _ + 7 => T.k_NoSkin_VE
theorem kit_self {K : PySem.W.Frag} {t : Value} : PySem.W.kitOne K t t = some true := by
  unfold PySem.W.kitOne
  rw [if_pos (by simp)]
theorem cls_is0 (T : Tx K mg) : ∀ i, i < 8 → PySem.W.kitOne K (.ref (cls T i)) (.ref T.c_Barred) = some (decide (i = 0))
  | 0, _ => kit_self
  | 1, _ => T.k_NoStep_Barred
  | 2, _ => T.k_AtEnd_Barred
  | 3, _ => T.k_NotClosed_Barred
  | 4, _ => T.k_NotYet_Barred
  | 5, _ => T.k_NoJoin_Barred
  | 6, _ => T.k_BadRow_Barred
  | 7, _ => T.k_NoSkin_Barred
  | i + 8, h => absurd h (by omega)
theorem cls_is1 (T : Tx K mg) : ∀ i, i < 8 → PySem.W.kitOne K (.ref (cls T i)) (.ref T.c_NoStep) = some (decide (i = 1))
  | 0, _ => T.k_Barred_NoStep
  | 1, _ => kit_self
  | 2, _ => T.k_AtEnd_NoStep
  | 3, _ => T.k_NotClosed_NoStep
  | 4, _ => T.k_NotYet_NoStep
  | 5, _ => T.k_NoJoin_NoStep
  | 6, _ => T.k_BadRow_NoStep
  | 7, _ => T.k_NoSkin_NoStep
  | i + 8, h => absurd h (by omega)
theorem cls_is2 (T : Tx K mg) : ∀ i, i < 8 → PySem.W.kitOne K (.ref (cls T i)) (.ref T.c_AtEnd) = some (decide (i = 2))
  | 0, _ => T.k_Barred_AtEnd
  | 1, _ => T.k_NoStep_AtEnd
  | 2, _ => kit_self
  | 3, _ => T.k_NotClosed_AtEnd
  | 4, _ => T.k_NotYet_AtEnd
  | 5, _ => T.k_NoJoin_AtEnd
  | 6, _ => T.k_BadRow_AtEnd
  | 7, _ => T.k_NoSkin_AtEnd
  | i + 8, h => absurd h (by omega)
theorem cls_is3 (T : Tx K mg) : ∀ i, i < 8 → PySem.W.kitOne K (.ref (cls T i)) (.ref T.c_NotClosed) = some (decide (i = 3))
  | 0, _ => T.k_Barred_NotClosed
  | 1, _ => T.k_NoStep_NotClosed
  | 2, _ => T.k_AtEnd_NotClosed
  | 3, _ => kit_self
  | 4, _ => T.k_NotYet_NotClosed
  | 5, _ => T.k_NoJoin_NotClosed
  | 6, _ => T.k_BadRow_NotClosed
  | 7, _ => T.k_NoSkin_NotClosed
  | i + 8, h => absurd h (by omega)
theorem cls_is4 (T : Tx K mg) : ∀ i, i < 8 → PySem.W.kitOne K (.ref (cls T i)) (.ref T.c_NotYet) = some (decide (i = 4))
  | 0, _ => T.k_Barred_NotYet
  | 1, _ => T.k_NoStep_NotYet
  | 2, _ => T.k_AtEnd_NotYet
  | 3, _ => T.k_NotClosed_NotYet
  | 4, _ => kit_self
  | 5, _ => T.k_NoJoin_NotYet
  | 6, _ => T.k_BadRow_NotYet
  | 7, _ => T.k_NoSkin_NotYet
  | i + 8, h => absurd h (by omega)
theorem cls_is5 (T : Tx K mg) : ∀ i, i < 8 → PySem.W.kitOne K (.ref (cls T i)) (.ref T.c_NoJoin) = some (decide (i = 5))
  | 0, _ => T.k_Barred_NoJoin
  | 1, _ => T.k_NoStep_NoJoin
  | 2, _ => T.k_AtEnd_NoJoin
  | 3, _ => T.k_NotClosed_NoJoin
  | 4, _ => T.k_NotYet_NoJoin
  | 5, _ => kit_self
  | 6, _ => T.k_BadRow_NoJoin
  | 7, _ => T.k_NoSkin_NoJoin
  | i + 8, h => absurd h (by omega)
theorem cls_is6 (T : Tx K mg) : ∀ i, i < 8 → PySem.W.kitOne K (.ref (cls T i)) (.ref T.c_BadRow) = some (decide (i = 6))
  | 0, _ => T.k_Barred_BadRow
  | 1, _ => T.k_NoStep_BadRow
  | 2, _ => T.k_AtEnd_BadRow
  | 3, _ => T.k_NotClosed_BadRow
  | 4, _ => T.k_NotYet_BadRow
  | 5, _ => T.k_NoJoin_BadRow
  | 6, _ => kit_self
  | 7, _ => T.k_NoSkin_BadRow
  | i + 8, h => absurd h (by omega)
theorem cls_is7 (T : Tx K mg) : ∀ i, i < 8 → PySem.W.kitOne K (.ref (cls T i)) (.ref T.c_NoSkin) = some (decide (i = 7))
  | 0, _ => T.k_Barred_NoSkin
  | 1, _ => T.k_NoStep_NoSkin
  | 2, _ => T.k_AtEnd_NoSkin
  | 3, _ => T.k_NotClosed_NoSkin
  | 4, _ => T.k_NotYet_NoSkin
  | 5, _ => T.k_NoJoin_NoSkin
  | 6, _ => T.k_BadRow_NoSkin
  | 7, _ => kit_self
  | i + 8, h => absurd h (by omega)
end

section
variable {P : Program} {w : World} {K : PySem.W.Frag} {mg : Str → Option Value} {base : Heap}
def spInit (K : PySem.W.Frag) : Sp := fun vs H Q _ => ∃ (a C : Addr) (x : V), vs = [.ref a, x] ∧ OexC K C ∧ H a = some (exo a C none) ∧ Q .non H
theorem ok_iSkinError (T : Tx K mg) : FnOk P w K mg base CX0 1 T.b_SkinError T.h_SkinError ["self", "words"] (spInit K) := by
  refine T.e_SkinError.F.ok sc_iSkinError (fun vs H Q E h => ?_) (fun cdv A outer s H vs Q E hr h => ?_)
  · obtain ⟨a, C, x, rfl, _⟩ := h
    rfl
  · obtain ⟨a, C, x, rfl, hC, ha, q⟩ := h
    refine ⟨_, (pss_one
    (ps_expr (pe_veinit (by rfl) T.z_ValueError T.vV (pa_cons (pv 0) (pa_cons (pv 1) pa_nil))))), ?_⟩
    exact ⟨_, rfl, _, rfl, a, C, [x], rfl, by show 1 ≤ 1000; decide, hC, ha, q⟩
def spInitF (K : PySem.W.Frag) (f : Str) : Sp := fun vs H Q _ => ∃ (a C : Addr) (x y : V), vs = [.ref a, x, y] ∧ OexC K C ∧ PySem.W.findIn K (.ref C) f = some none ∧ H a = some (exo a C none) ∧ ∀ dx, H dx = none → dx ≠ a → Q .non (upd (upd H dx (exd dx [(f, y)])) a (exo a C (some dx)))
theorem ok_iBarred (T : Tx K mg) : FnOk P w K mg base CX0 2 T.b_Barred T.h_Barred ["self", "words", "word"] (spInitF K "word") := by
  have G_iSkinError : FnOk P w K mg base CX0 1 T.b_SkinError T.h_SkinError ["self", "words"] (spInit K) := ok_iSkinError T
  refine T.e_Barred.F.ok sc_iBarred (fun vs H Q E h => ?_) (fun cdv A outer s H vs Q E hr h => ?_)
  · obtain ⟨a, C, x, y, rfl, _⟩ := h
    rfl
  · obtain ⟨a, C, x, y, rfl, hC, hno, ha, q⟩ := h
    refine ⟨_, (pss_cons
    (ps_expr (EX.pe_clsfn T.rd_SkinError T.sg_SkinError T.m_SkinError G_iSkinError (hr.mono (by decide)) (by rfl) T.g_SkinError T.e_SkinError.F.kp T.e_SkinError.b .nil pass0 (pa_cons (pv 0) (pa_cons (pv 1) pa_nil))))
    (pss_one
    (ps_ost (pv 0) (pv 2)))), ?_⟩
    refine ⟨_, rfl, _, rfl, a, C, x, rfl, hC, ha, ?_⟩
    exact ⟨_, rfl, _, rfl, a, C, rfl, hC, hno, .inl ⟨ha, q⟩⟩
theorem ok_iBadRow (T : Tx K mg) : FnOk P w K mg base CX0 2 T.b_BadRow T.h_BadRow ["self", "words", "row"] (spInitF K "row") := by
  have G_iSkinError : FnOk P w K mg base CX0 1 T.b_SkinError T.h_SkinError ["self", "words"] (spInit K) := ok_iSkinError T
  refine T.e_BadRow.F.ok sc_iBadRow (fun vs H Q E h => ?_) (fun cdv A outer s H vs Q E hr h => ?_)
  · obtain ⟨a, C, x, y, rfl, _⟩ := h
    rfl
  · obtain ⟨a, C, x, y, rfl, hC, hno, ha, q⟩ := h
    refine ⟨_, (pss_cons
    (ps_expr (EX.pe_clsfn T.rd_SkinError T.sg_SkinError T.m_SkinError G_iSkinError (hr.mono (by decide)) (by rfl) T.g_SkinError T.e_SkinError.F.kp T.e_SkinError.b .nil pass0 (pa_cons (pv 0) (pa_cons (pv 1) pa_nil))))
    (pss_one
    (ps_ost (pv 0) (pv 2)))), ?_⟩
    refine ⟨_, rfl, _, rfl, a, C, x, rfl, hC, ha, ?_⟩
    exact ⟨_, rfl, _, rfl, a, C, rfl, hC, hno, .inl ⟨ha, q⟩⟩
/-- what the i-th refusal holds -/
def held (i : Nat) (zw : Str) (row : Int) : List (Str × V) := match i with
  | 0 => [("word", .str zw)]
  | 6 => [("row", .int row)]
  | _ => []
/-- the i-th refusal at a -/
def Ref (T : Tx K mg) (H : Hp) (a : Addr) (i : Nat) (zw : Str) (row : Int) : Prop := EX.Exc H a (cls T i) (held i zw row)
theorem Exc.mono {H H' : Hp} {a C : Addr} {fs : List (Str × V)} (s : Same H H') (h : EX.Exc H a C fs) : EX.Exc H' a C fs := by
  rcases h with ⟨h, e⟩ | ⟨dx, h, hd⟩
  · exact .inl ⟨s _ _ h, e⟩
  · exact .inr ⟨dx, s _ _ h, s _ _ hd⟩
theorem same_made {H : Hp} {a dx : Addr} {o1 o2 o3 : HO} (na : H a = none) (nd : (upd H a o1) dx = none) (ne : dx ≠ a) : Same H (upd (upd (upd H a o1) dx o2) a o3) := by
  intro b o e
  have nb : b ≠ a := ne_of_none e na
  have nbd : b ≠ dx := ne_of_none (by rw [upd_ne nb]; exact e) nd
  rw [upd_ne nb, upd_ne nbd, upd_ne nb]
  exact e
def spMade (T : Tx K mg) : Sp := fun vs H Q _ => ∃ (i : Nat) (z zw : Str) (row : Int), vs = [.int (i : Nat), .str z, .str zw, .int row] ∧ i < 8 ∧ ∀ (a : Addr) (H' : Hp), Same H H' → Ref T H' a i zw row → Q (.ref a) H'
theorem ok_Lmade (T : Tx K mg) : FnOk P w K mg base CX0 4 T.a_Lmade T.f_Lmade ["_law_which", "_law_words", "_law_word", "_law_row"] (spMade T) := by
  have G_iSkinError : FnOk P w K mg base CX0 1 T.b_SkinError T.h_SkinError ["self", "words"] (spInit K) := ok_iSkinError T
  have G_iBarred : FnOk P w K mg base CX0 2 T.b_Barred T.h_Barred ["self", "words", "word"] (spInitF K "word") := ok_iBarred T
  have G_iBadRow : FnOk P w K mg base CX0 2 T.b_BadRow T.h_BadRow ["self", "words", "row"] (spInitF K "row") := ok_iBadRow T
  refine T.d_Lmade.F.ok sc_Lmade (fun vs H Q E h => ?_) (fun cdv A outer s H vs Q E hr h => ?_)
  · obtain ⟨i, z, zw, row, rfl, _⟩ := h
    rfl
  · obtain ⟨i, z, zw, row, rfl, hi, q⟩ := h
    refine ⟨_, (pss_cons
    (ps_if (pt_cmpR op_eq (pv 0) pe_int (nomark _)) (pss_one
        (ps_ret (EX.pe_mkV T.o_Barred T.i_Barred T.e_Barred.t G_iBarred (hr.mono (by decide)) T.e_Barred.b pass0 (by rfl) T.g_Barred (pa_cons (pv 1) (pa_cons (pv 2) pa_nil))))) pss_nil)
    (pss_cons
    (ps_if (pt_cmpR op_eq (pv 0) pe_int (nomark _)) (pss_one
        (ps_ret (EX.pe_mkV T.o_NoStep T.i_NoStep T.e_SkinError.t G_iSkinError (hr.mono (by decide)) T.e_SkinError.b pass0 (by rfl) T.g_NoStep (pa_cons (pv 1) pa_nil)))) pss_nil)
    (pss_cons
    (ps_if (pt_cmpR op_eq (pv 0) pe_int (nomark _)) (pss_one
        (ps_ret (EX.pe_mkV T.o_AtEnd T.i_AtEnd T.e_SkinError.t G_iSkinError (hr.mono (by decide)) T.e_SkinError.b pass0 (by rfl) T.g_AtEnd (pa_cons (pv 1) pa_nil)))) pss_nil)
    (pss_cons
    (ps_if (pt_cmpR op_eq (pv 0) pe_int (nomark _)) (pss_one
        (ps_ret (EX.pe_mkV T.o_NotClosed T.i_NotClosed T.e_SkinError.t G_iSkinError (hr.mono (by decide)) T.e_SkinError.b pass0 (by rfl) T.g_NotClosed (pa_cons (pv 1) pa_nil)))) pss_nil)
    (pss_cons
    (ps_if (pt_cmpR op_eq (pv 0) pe_int (nomark _)) (pss_one
        (ps_ret (EX.pe_mkV T.o_NotYet T.i_NotYet T.e_SkinError.t G_iSkinError (hr.mono (by decide)) T.e_SkinError.b pass0 (by rfl) T.g_NotYet (pa_cons (pv 1) pa_nil)))) pss_nil)
    (pss_cons
    (ps_if (pt_cmpR op_eq (pv 0) pe_int (nomark _)) (pss_one
        (ps_ret (EX.pe_mkV T.o_NoJoin T.i_NoJoin T.e_SkinError.t G_iSkinError (hr.mono (by decide)) T.e_SkinError.b pass0 (by rfl) T.g_NoJoin (pa_cons (pv 1) pa_nil)))) pss_nil)
    (pss_one
    (ps_ret (pe_ifExp (pt_cmpR op_eq (pv 0) pe_int (nomark _)) (EX.pe_mkV T.o_BadRow T.i_BadRow T.e_BadRow.t G_iBadRow (hr.mono (by decide)) T.e_BadRow.b pass0 (by rfl) T.g_BadRow (pa_cons (pv 1) (pa_cons (pv 3) pa_nil))) (EX.pe_mkV T.o_NoSkin T.i_NoSkin T.e_SkinError.t G_iSkinError (hr.mono (by decide)) T.e_SkinError.b pass0 (by rfl) T.g_NoSkin (pa_cons (pv 1) pa_nil))))))))))), ?_⟩
    have one : ∀ (i : Nat) (C : Addr), held i zw row = [] → cls T i = C → OexC K C → (∀ (a : Addr) (H' : Hp), Same H H' → Ref T H' a i zw row → Q (.ref a) H') → ∀ a, H a = none → spInit K [.ref a, .str z] (upd H a (exo a C none)) (fun v H2 => v = .non ∧ Q (.ref a) H2) (fun _ _ _ => False) := by
      intro i C hh hc hC q a na
      exact ⟨a, C, .str z, rfl, hC, upd_same, rfl, q a _ (same_new na) (by unfold Ref; rw [hh, hc]; exact .inl ⟨upd_same, rfl⟩)⟩
    match i, hi, q with
    | 0, _, q =>
      refine ⟨_, rfl, rfl, _, rfl, itePos (by decide) ?_⟩
      refine ⟨_, rfl, _, rfl, by show 2 ≤ 1000; decide, fun a na => ⟨a, T.c_Barred, .str z, .str zw, rfl, T.o_Barred, T.n_Barred_word, upd_same, fun dx nd ne => ⟨rfl, ?_⟩⟩⟩
      exact q a _ (same_made na nd ne) (.inr ⟨dx, upd_same, by rw [upd_ne ne]; exact upd_same⟩)
    | 1, _, q => exact ⟨_, rfl, rfl, _, rfl, iteNeg (by decide) ⟨_, rfl, rfl, _, rfl, itePos (by decide) ⟨_, rfl, by show 1 ≤ 1000; decide, one 1 _ rfl rfl T.o_NoStep q⟩⟩⟩
    | 2, _, q => exact ⟨_, rfl, rfl, _, rfl, iteNeg (by decide) ⟨_, rfl, rfl, _, rfl, iteNeg (by decide) ⟨_, rfl, rfl, _, rfl, itePos (by decide) ⟨_, rfl, by show 1 ≤ 1000; decide, one 2 _ rfl rfl T.o_AtEnd q⟩⟩⟩⟩
    | 3, _, q => exact ⟨_, rfl, rfl, _, rfl, iteNeg (by decide) ⟨_, rfl, rfl, _, rfl, iteNeg (by decide) ⟨_, rfl, rfl, _, rfl, iteNeg (by decide) ⟨_, rfl, rfl, _, rfl, itePos (by decide) ⟨_, rfl, by show 1 ≤ 1000; decide, one 3 _ rfl rfl T.o_NotClosed q⟩⟩⟩⟩⟩
    | 4, _, q => exact ⟨_, rfl, rfl, _, rfl, iteNeg (by decide) ⟨_, rfl, rfl, _, rfl, iteNeg (by decide) ⟨_, rfl, rfl, _, rfl, iteNeg (by decide) ⟨_, rfl, rfl, _, rfl, iteNeg (by decide) ⟨_, rfl, rfl, _, rfl, itePos (by decide) ⟨_, rfl, by show 1 ≤ 1000; decide, one 4 _ rfl rfl T.o_NotYet q⟩⟩⟩⟩⟩⟩
    | 5, _, q => exact ⟨_, rfl, rfl, _, rfl, iteNeg (by decide) ⟨_, rfl, rfl, _, rfl, iteNeg (by decide) ⟨_, rfl, rfl, _, rfl, iteNeg (by decide) ⟨_, rfl, rfl, _, rfl, iteNeg (by decide) ⟨_, rfl, rfl, _, rfl, iteNeg (by decide) ⟨_, rfl, rfl, _, rfl, itePos (by decide) ⟨_, rfl, by show 1 ≤ 1000; decide, one 5 _ rfl rfl T.o_NoJoin q⟩⟩⟩⟩⟩⟩⟩
    | 6, _, q =>
      refine ⟨_, rfl, rfl, _, rfl, iteNeg (by decide) ⟨_, rfl, rfl, _, rfl, iteNeg (by decide) ⟨_, rfl, rfl, _, rfl, iteNeg (by decide) ⟨_, rfl, rfl, _, rfl, iteNeg (by decide) ⟨_, rfl, rfl, _, rfl, iteNeg (by decide) ⟨_, rfl, rfl, _, rfl, iteNeg (by decide) ⟨_, rfl, rfl, _, rfl, itePos (by decide) ?_⟩⟩⟩⟩⟩⟩⟩
      refine ⟨_, rfl, _, rfl, by show 2 ≤ 1000; decide, fun a na => ⟨a, T.c_BadRow, .str z, .int row, rfl, T.o_BadRow, T.n_BadRow_row, upd_same, fun dx nd ne => ⟨rfl, ?_⟩⟩⟩
      exact q a _ (same_made na nd ne) (.inr ⟨dx, upd_same, by rw [upd_ne ne]; exact upd_same⟩)
    | 7, _, q => exact ⟨_, rfl, rfl, _, rfl, iteNeg (by decide) ⟨_, rfl, rfl, _, rfl, iteNeg (by decide) ⟨_, rfl, rfl, _, rfl, iteNeg (by decide) ⟨_, rfl, rfl, _, rfl, iteNeg (by decide) ⟨_, rfl, rfl, _, rfl, iteNeg (by decide) ⟨_, rfl, rfl, _, rfl, iteNeg (by decide) ⟨_, rfl, rfl, _, rfl, iteNeg (by decide) ⟨_, rfl, by show 1 ≤ 1000; decide, one 7 _ rfl rfl T.o_NoSkin q⟩⟩⟩⟩⟩⟩⟩⟩
    | i + 8, h, _ => exact absurd h (by omega)
def eight (i : Nat) : List Bool := [decide (i = 0), decide (i = 1), decide (i = 2), decide (i = 3), decide (i = 4), decide (i = 5), decide (i = 6), decide (i = 7)]
def spKinds (T : Tx K mg) : Sp := fun vs H Q _ => ∃ (a : Addr) (i : Nat) (fs : List (Str × V)), vs = [.ref a] ∧ i < 8 ∧ EX.Exc H a (cls T i) fs ∧ ∀ (H' : Hp) (p : Addr), Same H H' → H' p = some (.lst ((eight i).map V.bl)) → Q (.ref p) H'
theorem ok_Lkinds (T : Tx K mg) : FnOk P w K mg base CX0 1 T.a_Lkinds T.f_Lkinds ["_law_error"] (spKinds T) := by
  refine T.d_Lkinds.F.ok sc_Lkinds (fun vs H Q E h => ?_) (fun cdv A outer s H vs Q E hr h => ?_)
  · obtain ⟨a, i, fs, rfl, _⟩ := h
    rfl
  · obtain ⟨a, i, fs, rfl, hi, hx, q⟩ := h
    refine ⟨_, (pss_cons
    (ps_set (i := 1) sc_Lkinds.nd rfl (.inl rfl) (pe_lst (pa_cons (pe_callB EX.call_isX (by rfl) T.z_isinstance (by decide +kernel) (pa_cons (pv 0) (pa_cons (pe_glob (v := .ref T.c_Barred) (by rfl) T.g_Barred rfl) pa_nil))) (pa_cons (pe_callB EX.call_isX (by rfl) T.z_isinstance (by decide +kernel) (pa_cons (pv 0) (pa_cons (pe_glob (v := .ref T.c_NoStep) (by rfl) T.g_NoStep rfl) pa_nil))) (pa_cons (pe_callB EX.call_isX (by rfl) T.z_isinstance (by decide +kernel) (pa_cons (pv 0) (pa_cons (pe_glob (v := .ref T.c_AtEnd) (by rfl) T.g_AtEnd rfl) pa_nil))) pa_nil)))))
    (pss_cons
    (ps_set (i := 1) sc_Lkinds.nd rfl (.inl rfl) (pe_op op_cat (pv 1) (pe_lst (pa_cons (pe_callB EX.call_isX (by rfl) T.z_isinstance (by decide +kernel) (pa_cons (pv 0) (pa_cons (pe_glob (v := .ref T.c_NotClosed) (by rfl) T.g_NotClosed rfl) pa_nil))) (pa_cons (pe_callB EX.call_isX (by rfl) T.z_isinstance (by decide +kernel) (pa_cons (pv 0) (pa_cons (pe_glob (v := .ref T.c_NotYet) (by rfl) T.g_NotYet rfl) pa_nil))) (pa_cons (pe_callB EX.call_isX (by rfl) T.z_isinstance (by decide +kernel) (pa_cons (pv 0) (pa_cons (pe_glob (v := .ref T.c_NoJoin) (by rfl) T.g_NoJoin rfl) pa_nil))) pa_nil))))))
    (pss_one
    (ps_ret (pe_op op_cat (pv 1) (pe_lst (pa_cons (pe_callB EX.call_isX (by rfl) T.z_isinstance (by decide +kernel) (pa_cons (pv 0) (pa_cons (pe_glob (v := .ref T.c_BadRow) (by rfl) T.g_BadRow rfl) pa_nil))) (pa_cons (pe_callB EX.call_isX (by rfl) T.z_isinstance (by decide +kernel) (pa_cons (pv 0) (pa_cons (pe_glob (v := .ref T.c_NoSkin) (by rfl) T.g_NoSkin rfl) pa_nil))) pa_nil)))))))), ?_⟩
    have see := cls_see T i
    refine ⟨_, rfl, a, _, fs, _, _, _, rfl, .own _, hx, see, cls_is0 T i hi, _, rfl, a, _, fs, _, _, _, rfl, .own _, hx, see, cls_is1 T i hi, _, rfl, a, _, fs, _, _, _, rfl, .own _, hx, see, cls_is2 T i hi, by show 3 ≤ sizeLine; decide, fun p1 n1 => ?_⟩
    have s1 := same_new (o := .lst [.bl (decide (i = 0)), .bl (decide (i = 1)), .bl (decide (i = 2))]) n1
    have h1 : (upd H p1 (.lst [.bl (decide (i = 0)), .bl (decide (i = 1)), .bl (decide (i = 2))])) p1 = some (.lst [.bl (decide (i = 0)), .bl (decide (i = 1)), .bl (decide (i = 2))]) := upd_same
    generalize upd H p1 (.lst [.bl (decide (i = 0)), .bl (decide (i = 1)), .bl (decide (i = 2))]) = H1 at s1 h1 ⊢
    have x1 := Exc.mono s1 hx
    dsimp only [gName, List.set]
    refine ⟨_, rfl, _, rfl, a, _, fs, _, _, _, rfl, .own _, x1, see, cls_is3 T i hi, _, rfl, a, _, fs, _, _, _, rfl, .own _, x1, see, cls_is4 T i hi, _, rfl, a, _, fs, _, _, _, rfl, .own _, x1, see, cls_is5 T i hi, by show 3 ≤ sizeLine; decide, fun p2 n2 => ⟨p1, p2, _, _, rfl, rfl, same_new n2 _ _ h1, upd_same, by show 6 ≤ sizeLine; decide, fun p3 n3 => ?_⟩⟩
    have s3 : Same H1 (upd (upd H1 p2 (.lst [.bl (decide (i = 3)), .bl (decide (i = 4)), .bl (decide (i = 5))])) p3 (.lst ([.bl (decide (i = 0)), .bl (decide (i = 1)), .bl (decide (i = 2))] ++ [.bl (decide (i = 3)), .bl (decide (i = 4)), .bl (decide (i = 5))]))) := (same_new n2).trans (same_new n3)
    have h3 : (upd (upd H1 p2 (.lst [.bl (decide (i = 3)), .bl (decide (i = 4)), .bl (decide (i = 5))])) p3 (.lst ([.bl (decide (i = 0)), .bl (decide (i = 1)), .bl (decide (i = 2))] ++ [.bl (decide (i = 3)), .bl (decide (i = 4)), .bl (decide (i = 5))]))) p3 = some (.lst [.bl (decide (i = 0)), .bl (decide (i = 1)), .bl (decide (i = 2)), .bl (decide (i = 3)), .bl (decide (i = 4)), .bl (decide (i = 5))]) := upd_same
    generalize upd (upd H1 p2 (.lst [.bl (decide (i = 3)), .bl (decide (i = 4)), .bl (decide (i = 5))])) p3 (.lst ([.bl (decide (i = 0)), .bl (decide (i = 1)), .bl (decide (i = 2))] ++ [.bl (decide (i = 3)), .bl (decide (i = 4)), .bl (decide (i = 5))])) = H3 at s3 h3 ⊢
    have x3 := Exc.mono s3 x1
    dsimp only [gName, List.set]
    refine ⟨_, rfl, _, rfl, a, _, fs, _, _, _, rfl, .own _, x3, see, cls_is6 T i hi, _, rfl, a, _, fs, _, _, _, rfl, .own _, x3, see, cls_is7 T i hi, by show 2 ≤ sizeLine; decide, fun p4 n4 => ⟨p3, p4, _, _, rfl, rfl, same_new n4 _ _ h3, upd_same, by show 8 ≤ sizeLine; decide, fun p5 n5 => ?_⟩⟩
    exact q _ p5 ((s1.trans s3).trans ((same_new n4).trans (same_new n5))) upd_same
end

section
variable {P : Program} {w : World} {K : PySem.W.Frag} {mg : Str → Option Value} {base : Heap}
/-- a comprehension each of whose turns gives what out has there, leaving all that stood as it was -/
theorem lc_map {J : It} {n : Nat} {G : Hp → Prop} {Y : Nat → Hp → V → Hp → Prop} (w : Walk J n G Y) {g : TG} {te : TE} {vs : List Nat} {σ : L2.St} {H1 : Hp} {D : Addr} {Qd : Hp → Prop} (out : List V) (hn : out.length = n) (hz : n < 100000) (nD : H1 D = none) (hG : ∀ H, Same H1 H → G H)
    (hs : ∀ (i : Nat) (x : V) (H H' : Hp) (v : V) (Kc : VK), i < n → out[i]? = some v → Same H1 H → Y i H x H' → (∀ H4, Same H H4 → Kc v H4) → g x (wipe σ vs) H' fun σ2 H2 => wipe σ2 vs = wipe σ vs ∧ te σ2 H2 Kc) (hd : ∀ H, Same H1 H → H D = some (.lst out) → Qd H) :
    ∃ W : Nat → Nat → Hp → Prop, (∃ m, W 0 m (upd H1 D (.lst []))) ∧ ∀ i m H, W i m H →
      (J.stop i H ∧ Qd H) ∨ (J.go i H ∧ ∃ Nx : Hp → Prop, (∀ H', Nx H' → ∃ m', m' < m ∧ W (i + 1) m' H') ∧ ∀ x H', J.yld i H x H' → g x (wipe σ vs) H' fun σ2 H2 => wipe σ2 vs = wipe σ vs ∧ tYes σ2 H2 fun b H3 =>
        if b = true then te σ2 H3 fun y H4 => ∃ acc, H4 D = some (.lst acc) ∧ acc.length < sizeLine ∧ Nx (upd H4 D (.lst (acc ++ [y]))) else Nx H3) := by
  refine lc_it w (fun i H => Same H1 H ∧ H D = some (.lst (out.take i))) ⟨same_new nD, upd_same⟩ (fun i H _ h => hG H h.1) (fun i x H H' hi h hy => ?_) (fun H h => ?_)
  · have hi2 : i < out.length := by omega
    refine hs i x H H' out[i] _ hi (List.getElem?_eq_getElem hi2) h.1 hy fun H4 s4 => ?_
    refine ⟨_, s4 _ _ h.2, ?_, same_put (h.1.trans s4) nD, ?_⟩
    · rw [List.length_take]
      exact Nat.lt_of_le_of_lt (Nat.min_le_left _ _) (Nat.lt_trans hi (Nat.lt_of_lt_of_le hz (by decide)))
    · rw [upd_same, List.take_add_one, List.getElem?_eq_getElem hi2]
      rfl
  · have h2 := h.2
    rw [List.take_of_length_le (by omega)] at h2
    exact hd H h.1 h2
theorem fresh_but {a D : Addr} {H H' : Hp} {o : HO} (b : But a H H') (h : H' a = some o) (hD : H' D = none) : D ≠ a ∧ H D = none := by
  have n : D ≠ a := (ne_of_none h hD).symm
  refine ⟨n, ?_⟩
  cases e : H D with
  | none => rfl
  | some od => rw [b _ _ e n] at hD; cases hD
def spShuf : Sp := fun vs H Q _ => ∃ (b L : Addr) (o : HO) (n : Nat) (ns : List Int), vs = [.ref b, .ref L] ∧ b ≠ L ∧ H b = some o ∧ BoxO o n ∧ n + 100 < 2 ^ 30 ∧ H L = some (.lst (ns.map V.int)) ∧ ns.length ≤ 8 ∧
  ∀ (p : Addr) (ms : List Int) (o' : HO) (H' : Hp), But b H H' → p ≠ b → H' p = some (.lst (ms.map V.int)) → (∀ x ∈ ms, x ∈ ns) → ms.length ≤ 8 → H' b = some o' → BoxO o' (n + 8) → Q (.ref p) H'
theorem ok_Lshuffled (T : Tx K mg) : FnOk P w K mg base CX0 2 T.a_Lshuffled T.f_Lshuffled ["_law_box_here", "_law_some"] spShuf := by
  have G_Ltake : FnOk P w K mg base CX0 1 T.a_Ltake T.f_Ltake ["_law_box_here", "_law_many"] spTake := ok_Ltake T
  refine T.d_Lshuffled.F.ok sc_Lshuffled (fun vs H Q E h => ?_) (fun cdv A outer s H vs Q E hr h => ?_)
  · obtain ⟨b, L, o, n, ns, rfl, _⟩ := h
    rfl
  · obtain ⟨b, L, o, n, ns, rfl, nbL, ho, hB, hn, hL, hl, q⟩ := h
    refine ⟨_, (pss_cons
    (ps_set (i := 2) sc_Lshuffled.nd rfl (.inl rfl) (pe_lst pa_nil))
    (pss_cons
    (ps_for PassesOwn.never rfl (pi_list (pv 1)) (pg_name (i := 3) sc_Lshuffled.nd rfl (.inl rfl)) (pss_one
        (ps_expr (pe_bm PySem.F.plainAttrs_list PySem.F.slot_list_insert PySem.F.type_list_insert mt_insert (pv 2) (pa_cons (pe_call G_Ltake (hr.mono (by decide)) (by rfl) T.d_Ltake.g T.d_Ltake.F.kp T.d_Ltake.b .nil pass0 (pa_cons (pv 0) (pa_cons (pe_op op_add (pe_callB call_len_seq (by rfl) T.z_len (by decide +kernel) (pa_cons (pv 2) pa_nil)) pe_int) pa_nil))) (pa_cons (pv 3) pa_nil))))))
    (pss_one
    (ps_ret (pv 2))))), ?_⟩
    refine ⟨by show 0 ≤ sizeLine; decide, fun F nF => ?_⟩
    have nFb : F ≠ b := (ne_of_none ho nF).symm
    have nFL : F ≠ L := (ne_of_none hL nF).symm
    refine ⟨_, rfl, L, rfl, ⟨_, SqL.of (same_new nF _ _ hL)⟩, for_it (walk_list (xs := ns.map V.int)) (fun i σ H3 => ∃ (ms : List Int) (o : HO) (y3 : Option V), σ = [some (.ref b), some (.ref L), some (.ref F), y3] ∧ ms.length = i ∧ (∀ x ∈ ms, x ∈ ns) ∧ H3 F = some (.lst (ms.map V.int)) ∧ H3 b = some o ∧ BoxO o (n + i) ∧ But b H H3)
      ⟨[], o, none, rfl, rfl, fun x hx => (by simp at hx), upd_same, same_new nF _ _ ho, hB, But.of (same_new nF)⟩ (fun i σ H3 _ h => ?_) (fun i x σ H3' H3 hi h hy => ?_) (fun σ H3 h => ?_)⟩
    · obtain ⟨ms, o3, y3, rfl, h1, h2, h3, h4, h5, h6⟩ := h
      exact SqL.of (h6 _ _ hL nbL.symm)
    · obtain ⟨rfl, hx⟩ := hy
      obtain ⟨ms, o3, y3, rfl, h1, h2, h3, h4, h5, h6⟩ := h
      obtain ⟨v, hv, rfl⟩ := getL (f := V.int) (xs := ns) hx
      have hi8 : i < 8 := by
        rw [List.length_map] at hi
        omega
      dsimp only [gName, List.set]
      refine ⟨_, rfl, .inl ⟨rfl, _, SqL.of h3⟩, _, rfl, _, rfl, F, _, rfl, .inl (SqL.of h3), _, _, rfl, rfl, b, o3, n + i, (((ms.map V.int).length : Nat) : Int) + 1, rfl, h4, h5, by omega, by omega, ?_, fun r o4 r0 r1 hB4 => ?_⟩
      · rw [List.length_map, h1]
        have e : (((i : Nat) : Int) + 1).natAbs = i + 1 := by omega
        rw [e]
        exact Nat.lt_of_le_of_lt (show i + 1 ≤ 8 by omega) (Nat.lt_of_lt_of_le (show 8 < 2 ^ 4 by decide) (Nat.pow_le_pow_right (by decide) (by decide)))
      · rw [List.length_map, h1] at r1
        have hF4 : (upd H3 b o4) F = some (.lst (ms.map V.int)) := by
          rw [upd_ne nFb]
          exact h3
        refine ⟨_, rfl, F, ms.map V.int, r, .int v, rfl, rfl, hF4, ?_, r0, by omega, ms.take r.toNat ++ [v] ++ ms.drop r.toNat, o4, _, rfl, ?_, fun x hx => ?_, ?_, ?_, hB4, ?_⟩
        · rw [List.length_map, h1]
          exact Nat.lt_trans hi8 (by decide)
        · simp only [List.length_append, List.length_take, List.length_drop, List.length_singleton]
          omega
        · rcases List.mem_append.mp hx with hx | hx
          · rcases List.mem_append.mp hx with hx | hx
            · exact h2 x (List.mem_of_mem_take hx)
            · rw [List.mem_singleton.mp hx]
              exact List.mem_of_getElem? hv
          · exact h2 x (List.mem_of_mem_drop hx)
        · rw [upd_same, List.map_append, List.map_append, List.map_take, List.map_drop]
          rfl
        · rw [upd_ne nFb.symm]
          exact upd_same
        · intro c oc e ne
          rw [upd_ne (ne_of_none e nF), upd_ne ne]
          exact h6 _ _ e ne
    · obtain ⟨ms, o3, y3, rfl, h1, h2, h3, h4, h5, h6⟩ := h
      rw [List.length_map] at h1 h5
      exact ⟨_, rfl, q F ms o3 H3 h6 nFb h3 h2 (by omega) h4 (h5.mono (by omega))⟩
theorem dp_bls {H : Hp} : ∀ (bs : List Bool), DpAll K H (bs.map V.bl) (bs.map PyData.bool)
  | [] => .nil
  | b :: bs => .cons (.bl b) (dp_bls bs)
theorem eqv_bls : ∀ (bs : List Bool), PyData.eqvAll (bs.map PyData.bool) (bs.map PyData.bool) = true
  | [] => by simp [PyData.eqvAll]
  | b :: bs => by simp [PyData.eqvAll, PyData.eqv, eqv_bls bs]
theorem dec_k (i k : Nat) : decide (V.int (0 + (k : Int)) = V.int (i : Int)) = decide (i = k) := by
  by_cases h : i = k
  · subst h
    simp
  · have : ¬ (V.int (0 + (k : Int)) = V.int (i : Int)) := fun z => by
      have e := V.int.inj z
      omega
    rw [decide_eq_false h, decide_eq_false this]
theorem eight_get (k : Nat) : ∀ j, j < 8 → ((eight k).map V.bl)[j]? = some (.bl (decide (k = j)))
  | 0, _ => rfl
  | 1, _ => rfl
  | 2, _ => rfl
  | 3, _ => rfl
  | 4, _ => rfl
  | 5, _ => rfl
  | 6, _ => rfl
  | 7, _ => rfl
  | j + 8, h => absurd h (by omega)
theorem eqv_lst (bs : List Bool) : PyData.eqv (.list (bs.map PyData.bool)) (.list (bs.map PyData.bool)) = true := by
  simp [PyData.eqv, eqv_bls]
def spRight : Sp := fun vs H Q _ => ∃ (a : Addr) (o : HO), vs = [.ref a] ∧ H a = some o ∧ BoxO o 0 ∧ ∀ H', But a H H' → Q (.bl true) H'
set_option maxHeartbeats 8000000 in
theorem ok_Lright (T : Tx K mg) : FnOk P w K mg base CX0 5 T.a_Lright T.f_Lright ["_law_box_here"] spRight := by
  have G_Ltake : FnOk P w K mg base CX0 1 T.a_Ltake T.f_Ltake ["_law_box_here", "_law_many"] spTake := ok_Ltake T
  have G_Lshuffled : FnOk P w K mg base CX0 2 T.a_Lshuffled T.f_Lshuffled ["_law_box_here", "_law_some"] spShuf := ok_Lshuffled T
  have G_Lmade : FnOk P w K mg base CX0 4 T.a_Lmade T.f_Lmade ["_law_which", "_law_words", "_law_word", "_law_row"] (spMade T) := ok_Lmade T
  have G_Lkinds : FnOk P w K mg base CX0 1 T.a_Lkinds T.f_Lkinds ["_law_error"] (spKinds T) := ok_Lkinds T
  have G_Lsame : FnOk P w K mg base CX0 4 T.a_Lsame T.f_Lsame ["_law_found", "_law_due"] (spSame 3) := ok_Lsame T 3
  refine T.d_Lright.F.ok sc_Lright (fun vs H Q E h => ?_) (fun cdv A outer s H vs Q E hr h => ?_)
  · obtain ⟨a, o, rfl, _⟩ := h
    rfl
  · obtain ⟨b, o, rfl, ho, hB, q⟩ := h
    refine ⟨_, (pss_cons
    (ps_for PassesOwn.never rfl (pi_list (pe_call G_Lshuffled (hr.mono (by decide)) (by rfl) T.d_Lshuffled.g T.d_Lshuffled.F.kp T.d_Lshuffled.b .nil pass0 (pa_cons (pv 0) (pa_cons (pe_listRg rfl (by rfl) T.z_list (prg_1 (by rfl) T.z_range pe_int)) pa_nil)))) (pg_name (i := 1) sc_Lright.nd rfl (.inr rfl)) (pss_cons
        (ps_set (i := 2) sc_Lright.nd rfl (.inl rfl) (pe_slice sl_str pe_str po_none (po_some (pe_call G_Ltake (hr.mono (by decide)) (by rfl) T.d_Ltake.g T.d_Ltake.F.kp T.d_Ltake.b .nil pass0 (pa_cons (pv 0) (pa_cons pe_int pa_nil))))))
        (pss_cons
        (ps_par (i := 3) (j := 4) (by rfl) sc_Lright.nd rfl rfl (by decide) rfl rfl (pa_cons (pe_ix ix_list (pe_lst (pa_cons pe_str (pa_cons pe_str (pa_cons pe_str (pa_cons pe_str (pa_cons pe_str pa_nil)))))) (pe_call G_Ltake (hr.mono (by decide)) (by rfl) T.d_Ltake.g T.d_Ltake.F.kp T.d_Ltake.b .nil pass0 (pa_cons (pv 0) (pa_cons pe_int pa_nil))) (fun _ _ => rfl)) (pa_cons (pe_call G_Ltake (hr.mono (by decide)) (by rfl) T.d_Ltake.g T.d_Ltake.F.kp T.d_Ltake.b .nil pass0 (pa_cons (pv 0) (pa_cons pe_int pa_nil))) pa_nil)) (by rfl))
        (pss_cons
        (ps_set (i := 5) sc_Lright.nd rfl (.inl rfl) (pe_call G_Lmade (hr.mono (by decide)) (by rfl) T.d_Lmade.g T.d_Lmade.F.kp T.d_Lmade.b .nil pass0 (pa_cons (pv 1) (pa_cons (pv 2) (pa_cons (pv 3) (pa_cons (pv 4) pa_nil))))))
        (pss_cons
        (ps_if (pt_cmpR (op_neD hr.units) (pe_call G_Lkinds (hr.mono (by decide)) (by rfl) T.d_Lkinds.g T.d_Lkinds.F.kp T.d_Lkinds.b .nil pass0 (pa_cons (pv 5) pa_nil)) (pe_lc (own := [("_law_k", 6)]) (g := (gName 6)) (tt := tYes) rfl sc_Lright.nd (pi_range1 (by rfl) T.z_range (pa_cons pe_int pa_nil)) (blkOk_by (own := [("_law_k", 6)]) (N := ["_law_box_here", "_law_which", "_law_words", "_law_word", "_law_row", "_law_error", "_law_k"]) (sc := defScope s_Lright) (by decide +kernel)) (fun _ _ _ _ _ => (pg_name (i := 6) sc_Lright.nd rfl (.inl rfl) (.inr rfl))) (fun _ _ _ _ _ => pts_nil) (fun _ _ _ _ _ => (pe_cmpR op_eq (pv 6) (pv 1) (nomark _)))) (nomark _)) (pss_one
            (ps_ret pe_bl)) pss_nil)
        (pss_cons
        (ps_if (PW.pt (pw_or (pt_not (pt_val (pe_callB EX.call_isX (by rfl) T.z_isinstance (by decide +kernel) (pa_cons (pv 5) (pa_cons (pe_glob (v := .ref T.c_SkinError) (by rfl) T.g_SkinError rfl) pa_nil))))) (pw_or1 (pt_not (pt_val (pe_callB EX.call_isX (by rfl) T.z_isinstance (by decide +kernel) (pa_cons (pv 5) (pa_cons (pe_bltn (v := .ty "ValueError") (by rfl) T.z_ValueError (by decide +kernel) rfl) pa_nil)))))))) (pss_one
            (ps_ret pe_bl)) pss_nil)
        (pss_one
        (ps_if (PW.pt (pw_or (PW.pt (pw_and (pt_cmpR op_eq (pv 1) pe_int (nomark _)) (pw_and1 (pt_not (pt_val (pe_call G_Lsame (hr.mono (by decide)) (by rfl) T.d_Lsame.g T.d_Lsame.F.kp T.d_Lsame.b .nil pass0 (pa_cons (EX.pe_fld (pv 5)) (pa_cons (pv 3) pa_nil)))))))) (pw_or1 (PW.pt (pw_and (pt_cmpR op_eq (pv 1) pe_int (nomark _)) (pw_and1 (pt_not (pt_val (pe_call G_Lsame (hr.mono (by decide)) (by rfl) T.d_Lsame.g T.d_Lsame.F.kp T.d_Lsame.b .nil pass0 (pa_cons (EX.pe_fld (pv 5)) (pa_cons (pv 4) pa_nil))))))))))) (pss_one
            (ps_ret pe_bl)) pss_nil))))))))
    (pss_one
    (ps_ret pe_bl))), ?_⟩
    refine ⟨_, rfl, 8, rfl, ⟨by decide, by decide, by decide, by decide, by decide⟩, fun L nL => ?_⟩
    have nLb : b ≠ L := ne_of_none ho nL
    refine ⟨b, L, o, 0, [0, 1, 2, 3, 4, 5, 6, 7], rfl, nLb, same_new nL _ _ ho, hB, by decide, upd_same, by decide, fun p ms o1 H1 b1 np hp hms hml h1 hB1 => ?_⟩
    have bb1 : But b H H1 := (But.of (same_new nL)).trans b1
    refine ⟨p, rfl, ⟨_, SqL.of hp⟩, for_it (walk_list (xs := ms.map V.int)) (fun i σ H2 => ∃ (y1 y2 y3 y4 y5 : Option V) (o : HO), σ = [some (.ref b), y1, y2, y3, y4, y5, none] ∧ H2 p = some (.lst (ms.map V.int)) ∧ H2 b = some o ∧ BoxO o (8 + 3 * i) ∧ But b H H2)
      ⟨none, none, none, none, none, o1, rfl, hp, h1, hB1, bb1⟩ (fun i σ H2 _ h => ?_) (fun i x σ H2' H2 hi h hy => ?_) (fun σ H2 h => ?_)⟩
    · obtain ⟨y1, y2, y3, y4, y5, o2, rfl, g1, g2, g3, g4⟩ := h
      exact SqL.of g1
    · obtain ⟨rfl, hx⟩ := hy
      obtain ⟨y1, y2, y3, y4, y5, o2, rfl, g1, g2, g3, g4⟩ := h
      obtain ⟨v, hv, rfl⟩ := getL (f := V.int) (xs := ms) hx
      have hi8 : i < 8 := by
        rw [List.length_map] at hi
        omega
      obtain ⟨k, rfl, hk⟩ : ∃ k : Nat, v = (k : Int) ∧ k < 8 := by
        have hm := hms v (List.mem_of_getElem? hv)
        simp only [List.mem_cons, List.not_mem_nil, or_false] at hm
        exact ⟨v.toNat, by omega, by omega⟩
      dsimp only [gName, List.set]
      -- words
      refine ⟨_, rfl, b, o2, 8 + 3 * i, 21, rfl, g2, g3, by omega, by decide, by decide, fun r o3 r0 r1 hB3 => ⟨r, rfl, _, rfl, by decide, ?_⟩⟩
      generalize cutS "no more than this, or that" none (some r) = z
      dsimp only [gName, List.set]
      -- word, row
      refine ⟨by show 5 ≤ sizeLine; decide, fun t nt => ⟨_, rfl, b, o3, 8 + 3 * i + 1, 5, rfl, same_new nt _ _ upd_same, hB3, by omega, by decide, by decide, fun r2 o4 r20 r21 hB4 => ?_⟩⟩
      have ntb : t ≠ b := fun e => by
        subst e
        rw [upd_same] at nt
        cases nt
      obtain ⟨cv, hcv, ecv⟩ := at_mem (xs := [.str "apart", .str "stays", .str "mark", .str "shape", .str "turn"]) r20 (by exact r21)
      obtain ⟨zw, rfl⟩ : ∃ zw : Str, cv = .str zw := by
        simp only [List.mem_cons, List.not_mem_nil, or_false] at hcv
        rcases hcv with rfl | rfl | rfl | rfl | rfl <;> exact ⟨_, rfl⟩
      refine ⟨t, _, _, _, rfl, rfl, SqL.of (by rw [upd_ne ntb, upd_same]), ecv, _, rfl, b, o4, 8 + 3 * i + 2, 401, rfl, upd_same, hB4, by omega, by decide, by decide, fun row o5 r30 r31 hB5 => ⟨_, _, rfl, ?_⟩⟩
      have b5 : But b H2 (upd (upd (upd (upd H2 b o3) t (.lst [.str "apart", .str "stays", .str "mark", .str "shape", .str "turn"])) b o4) b o5) := ((But.put.trans (But.of (same_new nt))).trans But.put).trans But.put
      have h5 : (upd (upd (upd (upd H2 b o3) t (.lst [.str "apart", .str "stays", .str "mark", .str "shape", .str "turn"])) b o4) b o5) b = some o5 := upd_same
      generalize upd (upd (upd (upd H2 b o3) t (.lst [.str "apart", .str "stays", .str "mark", .str "shape", .str "turn"])) b o4) b o5 = H5 at b5 h5 ⊢
      dsimp only [gName, List.set]
      -- the refusal
      refine ⟨_, rfl, _, rfl, _, rfl, _, rfl, k, z, zw, row, rfl, hk, fun a H6 s6 hr6 => ?_⟩
      dsimp only [gName, List.set]
      -- its kinds
      refine ⟨_, rfl, a, k, _, rfl, hk, hr6, fun H7 pk s7 hpk => ⟨8, rfl, by decide, by decide, fun D hD => ?_⟩⟩
      refine lc_map walk_range ((eight k).map V.bl) rfl (by decide) hD (fun _ _ => trivial) (fun j x H8 H9 ov Kc hj hov s8 hy kk => ?_) (fun H8 s8 h8 => ?_)
      · obtain ⟨rfl, rfl⟩ := hy
        rw [eight_get k j hj] at hov
        cases hov
        refine ⟨rfl, _, rfl, _, rfl, rfl, ?_⟩
        rw [dec_k]
        exact kk _ (Same.refl _)
      have hx8 := Exc.mono (s7.trans s8) hr6
      have see := cls_see T k
      refine ⟨_, _, .lst (SqL.of (s8 _ _ hpk)) (dp_bls _), .lst (SqL.of h8) (dp_bls _), rfl, rfl, _, rfl, iteNeg (by rw [eqv_lst]; decide) ?_⟩
      refine ⟨_, rfl, a, _, _, .ref T.c_SkinError, _, true, rfl, .own _, hx8, see, cls_skin T k, _, rfl, iteNeg (by decide) ⟨_, rfl, a, _, _, .ty "ValueError", _, true, rfl, .ty _, hx8, see, cls_ve T k, _, rfl, iteNeg (by decide) ?_⟩⟩
      have s68 := s7.trans s8
      have fin : ∀ H9, Same H8 H9 → ∃ (y1 y2 y3 y4 y5 : Option V) (o : HO), [some (V.ref b), some (V.int (k : Int)), some (V.str z), some (V.str zw), some (V.int row), some (V.ref a), none] = [some (V.ref b), y1, y2, y3, y4, y5, none] ∧ H9 p = some (.lst (ms.map V.int)) ∧ H9 b = some o ∧ BoxO o (8 + 3 * (i + 1)) ∧ But b H H9 := fun H9 s9 => by
        have sA := s6.trans (s68.trans s9)
        exact ⟨_, _, _, _, _, o5, rfl, sA _ _ (b5 _ _ g1 np), sA _ _ h5, hB5.mono (by omega), g4.trans (b5.trans (But.of sA))⟩
      match k, hk, hx8, see, fin with
      | 0, _, hx8, see, fin =>
        obtain ⟨_, e⟩ | ⟨dx, e1, e2⟩ := hx8
        · cases e
        refine ⟨_, rfl, rfl, _, rfl, itePos (by decide) ?_⟩
        refine ⟨_, rfl, a, _, dx, _, .str zw, rfl, see, T.n_Barred_word, e1, e2, rfl, _, rfl, .str zw, .str zw, rfl, Dt.str zw, fun H9 s9 => ⟨_, rfl, iteNeg (by decide) ?_⟩⟩
        exact ⟨_, rfl, rfl, _, rfl, iteNeg (by decide) (fin H9 s9)⟩
      | 6, _, hx8, see, fin =>
        obtain ⟨_, e⟩ | ⟨dx, e1, e2⟩ := hx8
        · cases e
        refine ⟨_, rfl, rfl, _, rfl, iteNeg (by decide) (iteNeg (by decide) ⟨_, rfl, rfl, _, rfl, itePos (by decide) ?_⟩)⟩
        exact ⟨_, rfl, a, _, dx, _, .int row, rfl, see, T.n_BadRow_row, e1, e2, rfl, _, rfl, .int row, .int row, rfl, Dt.int row, fun H9 s9 => ⟨_, rfl, iteNeg (by decide) (fin H9 s9)⟩⟩
      | 1, _, hx8, see, fin => exact ⟨_, rfl, rfl, _, rfl, iteNeg (by decide) (iteNeg (by decide) ⟨_, rfl, rfl, _, rfl, iteNeg (by decide) (iteNeg (by decide) (fin _ (Same.refl _)))⟩)⟩
      | 2, _, hx8, see, fin => exact ⟨_, rfl, rfl, _, rfl, iteNeg (by decide) (iteNeg (by decide) ⟨_, rfl, rfl, _, rfl, iteNeg (by decide) (iteNeg (by decide) (fin _ (Same.refl _)))⟩)⟩
      | 3, _, hx8, see, fin => exact ⟨_, rfl, rfl, _, rfl, iteNeg (by decide) (iteNeg (by decide) ⟨_, rfl, rfl, _, rfl, iteNeg (by decide) (iteNeg (by decide) (fin _ (Same.refl _)))⟩)⟩
      | 4, _, hx8, see, fin => exact ⟨_, rfl, rfl, _, rfl, iteNeg (by decide) (iteNeg (by decide) ⟨_, rfl, rfl, _, rfl, iteNeg (by decide) (iteNeg (by decide) (fin _ (Same.refl _)))⟩)⟩
      | 5, _, hx8, see, fin => exact ⟨_, rfl, rfl, _, rfl, iteNeg (by decide) (iteNeg (by decide) ⟨_, rfl, rfl, _, rfl, iteNeg (by decide) (iteNeg (by decide) (fin _ (Same.refl _)))⟩)⟩
      | 7, _, hx8, see, fin => exact ⟨_, rfl, rfl, _, rfl, iteNeg (by decide) (iteNeg (by decide) ⟨_, rfl, rfl, _, rfl, iteNeg (by decide) (iteNeg (by decide) (fin _ (Same.refl _)))⟩)⟩
      | k + 8, h, _, _, _ => exact absurd h (by omega)
    · exact q _ (by obtain ⟨_, _, _, _, _, _, _, _, _, _, h⟩ := h; exact h)
def spLaw (K : PySem.W.Frag) : Sp := fun vs H Q _ => ∃ (a : Addr) (ns : List Int), vs = [.ref a] ∧ SqL K H a (ns.map V.int) ∧ ns.length ≤ 63 ∧ ∀ H', Q (.bl true) H'
theorem ok_law (T : Tx K mg) : FnOk P w K mg base CX0 6 T.a_law T.f_law ["_law_script"] (spLaw K) := by
  have G_Lfolded : FnOk P w K mg base CX0 1 T.a_Lfolded T.f_Lfolded ["_law_script", "_law_many"] (spFold K) := ok_Lfolded T
  have G_Lbox : FnOk P w K mg base CX0 1 T.a_Lbox T.f_Lbox ["_law_cells", "_law_k"] (spBox K) := ok_Lbox T
  have G_Lright : FnOk P w K mg base CX0 5 T.a_Lright T.f_Lright ["_law_box_here"] spRight := ok_Lright T
  refine T.d_law.F.ok sc_law (fun vs H Q E h => ?_) (fun cdv A outer s H vs Q E hr h => ?_)
  · obtain ⟨a, ns, rfl, _⟩ := h
    rfl
  · obtain ⟨a, ns, rfl, hS, hl, q⟩ := h
    refine ⟨_, (pss_cons
    (ps_set (i := 1) sc_law.nd rfl (.inr rfl) (pe_call G_Lfolded (hr.mono (by decide)) (by rfl) T.d_Lfolded.g T.d_Lfolded.F.kp T.d_Lfolded.b .nil pass0 (pa_cons (pv 0) (pa_cons pe_int pa_nil))))
    (pss_one
    (ps_ret (pe_callB (cr_all rfl) (by rfl) T.z_all (by decide +kernel) (pa_cons (pe_lc (own := [("_law_k", 2)]) (g := (gName 2)) (tt := tYes) rfl sc_law.nd (pi_range1 (by rfl) T.z_range (pa_cons (pe_callB (call_max2 rfl) (by rfl) T.z_max (by decide +kernel) (pa_cons pe_int (pa_cons (pe_callB call_len_seq (by rfl) T.z_len (by decide +kernel) (pa_cons (pv 1) pa_nil)) pa_nil))) pa_nil)) (blkOk_by (own := [("_law_k", 2)]) (N := ["_law_script", "_law_cells", "_law_k"]) (sc := defScope s_law) (by decide +kernel)) (fun _ _ _ _ _ => (pg_name (i := 2) sc_law.nd rfl (.inl rfl) (.inr rfl))) (fun _ _ _ _ _ => pts_nil) (fun _ _ _ _ _ => (pe_call G_Lright (hr.mono (by decide)) (by rfl) T.d_Lright.g T.d_Lright.F.kp T.d_Lright.b .nil pass0 (pa_cons (pe_call G_Lbox (hr.mono (by decide)) (by rfl) T.d_Lbox.g T.d_Lbox.F.kp T.d_Lbox.b .nil pass0 (pa_cons (pv 1) (pa_cons (pv 2) pa_nil))) pa_nil)))) pa_nil))))), ?_⟩
    refine ⟨_, rfl, a, ns, 6, rfl, hS, hl, by decide, by decide, fun H1 c cs s1 nc hc hcl => ?_⟩
    refine ⟨_, rfl, c, _, rfl, .inl (SqL.of hc), 2, _, rfl, _, rfl, ?_, ?_, fun D hD => ?_⟩
    · rw [List.length_map]
      split <;> omega
    · rw [List.length_map]
      split <;> omega
    · rw [List.length_map]
      generalize hn : (if (cs.length : Int) > 2 then (cs.length : Int) else 2).toNat = n
      have hn10 : n ≤ 10 := by
        rw [← hn]
        split <;> omega
      refine lc_it walk_range (fun i H3 => H3 c = some (.lst (cs.map V.int)) ∧ H3 D = some (.lst ((List.replicate i true).map V.bl))) ⟨?_, upd_same⟩ (fun _ _ _ _ => trivial) (fun i x H3 H4 hi h hy => ?_) (fun H3 h => ?_)
      · rw [upd_ne (ne_of_none hc hD)]
        exact hc
      · obtain ⟨rfl, rfl⟩ := hy
        refine ⟨rfl, ?_⟩
        refine ⟨_, rfl, _, rfl, c, cs, i, by show [V.ref c, V.int (0 + (i : Int))] = _; rw [Int.zero_add], SqL.of h.1, by omega, fun p o np hB => ?_⟩
        refine ⟨p, o, rfl, upd_same, hB, fun H5 hb => ?_⟩
        have s3 := same_new (o := o) np
        refine ⟨_, hb _ _ (s3 _ _ h.2) (ne_of_none h.2 np), ?_, ?_, upd_same.trans ?_⟩
        · rw [List.length_map, List.length_replicate]
          exact Nat.lt_of_lt_of_le hi (Nat.le_trans hn10 (by decide))
        · rw [upd_ne (ne_of_none hc hD)]
          exact hb _ _ (s3 _ _ h.1) (ne_of_none h.1 np)
        · rw [List.replicate_succ', List.map_append]
          rfl
      · refine ⟨D, List.replicate n true, rfl, SqL.of h.2, ?_⟩
        exact bl_true (by simp) (q _)
end
theorem all_mk {l : PySem.W.OpenLaw} {w : World} {K : PySem.W.Frag} {h : Heap} {mg : Str → Option Value} {fa f0 f1 f2 f3 f4 f5 f6 f7 f8 : Addr} (X : K.In h) (G : h.Ns mainGlobals mg) (hfa : mg "law" = some (.ref fa))
    {od0 an0 : Option Addr} {sl0 : Array (Option Value)} {oc0 kV0 dc0 pm0 cd0 ct0 : Value}
    {od1 an1 : Option Addr} {sl1 : Array (Option Value)} {oc1 kV1 dc1 pm1 cd1 ct1 : Value}
    {od2 an2 : Option Addr} {sl2 : Array (Option Value)} {oc2 kV2 dc2 pm2 cd2 ct2 : Value}
    {od3 an3 : Option Addr} {sl3 : Array (Option Value)} {oc3 kV3 dc3 pm3 cd3 ct3 : Value}
    {od4 an4 : Option Addr} {sl4 : Array (Option Value)} {oc4 kV4 dc4 pm4 cd4 ct4 : Value}
    {od5 an5 : Option Addr} {sl5 : Array (Option Value)} {oc5 kV5 dc5 pm5 cd5 ct5 : Value}
    {od6 an6 : Option Addr} {sl6 : Array (Option Value)} {oc6 kV6 dc6 pm6 cd6 ct6 : Value}
    {od7 an7 : Option Addr} {sl7 : Array (Option Value)} {oc7 kV7 dc7 pm7 cd7 ct7 : Value}
    {od8 an8 : Option Addr} {sl8 : Array (Option Value)} {oc8 kV8 dc8 pm8 cd8 ct8 : Value}
    (a0 : PySem.W.nsIn K mainGlobals "_law_box" = some (some (.ref f0))) (l0 : K.lookup f0 = some ⟨oc0, od0, .func (PySem.W.fnOf "_law_box" "_law_box" (defArgs s_Lbox) (defBody s_Lbox) (defScope s_Lbox) .none kV0 dc0 pm0 an0 cd0 ct0), sl0⟩) (c0 : PySem.W.codeIn K cd0 "_law_box" = true) (k0 : PySem.W.keepIn K (.ref f0) = true)
    (a1 : PySem.W.nsIn K mainGlobals "_law_take" = some (some (.ref f1))) (l1 : K.lookup f1 = some ⟨oc1, od1, .func (PySem.W.fnOf "_law_take" "_law_take" (defArgs s_Ltake) (defBody s_Ltake) (defScope s_Ltake) .none kV1 dc1 pm1 an1 cd1 ct1), sl1⟩) (c1 : PySem.W.codeIn K cd1 "_law_take" = true) (k1 : PySem.W.keepIn K (.ref f1) = true)
    (a2 : PySem.W.nsIn K mainGlobals "_law_folded" = some (some (.ref f2))) (l2 : K.lookup f2 = some ⟨oc2, od2, .func (PySem.W.fnOf "_law_folded" "_law_folded" (defArgs s_Lfolded) (defBody s_Lfolded) (defScope s_Lfolded) .none kV2 dc2 pm2 an2 cd2 ct2), sl2⟩) (c2 : PySem.W.codeIn K cd2 "_law_folded" = true) (k2 : PySem.W.keepIn K (.ref f2) = true)
    (a3 : PySem.W.nsIn K mainGlobals "_law_same" = some (some (.ref f3))) (l3 : K.lookup f3 = some ⟨oc3, od3, .func (PySem.W.fnOf "_law_same" "_law_same" (defArgs s_Lsame) (defBody s_Lsame) (defScope s_Lsame) .none kV3 dc3 pm3 an3 cd3 ct3), sl3⟩) (c3 : PySem.W.codeIn K cd3 "_law_same" = true) (k3 : PySem.W.keepIn K (.ref f3) = true)
    (a4 : PySem.W.nsIn K mainGlobals "_law_shuffled" = some (some (.ref f4))) (l4 : K.lookup f4 = some ⟨oc4, od4, .func (PySem.W.fnOf "_law_shuffled" "_law_shuffled" (defArgs s_Lshuffled) (defBody s_Lshuffled) (defScope s_Lshuffled) .none kV4 dc4 pm4 an4 cd4 ct4), sl4⟩) (c4 : PySem.W.codeIn K cd4 "_law_shuffled" = true) (k4 : PySem.W.keepIn K (.ref f4) = true)
    (a5 : PySem.W.nsIn K mainGlobals "_law_made" = some (some (.ref f5))) (l5 : K.lookup f5 = some ⟨oc5, od5, .func (PySem.W.fnOf "_law_made" "_law_made" (defArgs s_Lmade) (defBody s_Lmade) (defScope s_Lmade) .none kV5 dc5 pm5 an5 cd5 ct5), sl5⟩) (c5 : PySem.W.codeIn K cd5 "_law_made" = true) (k5 : PySem.W.keepIn K (.ref f5) = true)
    (a6 : PySem.W.nsIn K mainGlobals "_law_kinds" = some (some (.ref f6))) (l6 : K.lookup f6 = some ⟨oc6, od6, .func (PySem.W.fnOf "_law_kinds" "_law_kinds" (defArgs s_Lkinds) (defBody s_Lkinds) (defScope s_Lkinds) .none kV6 dc6 pm6 an6 cd6 ct6), sl6⟩) (c6 : PySem.W.codeIn K cd6 "_law_kinds" = true) (k6 : PySem.W.keepIn K (.ref f6) = true)
    (a7 : PySem.W.nsIn K mainGlobals "_law_right" = some (some (.ref f7))) (l7 : K.lookup f7 = some ⟨oc7, od7, .func (PySem.W.fnOf "_law_right" "_law_right" (defArgs s_Lright) (defBody s_Lright) (defScope s_Lright) .none kV7 dc7 pm7 an7 cd7 ct7), sl7⟩) (c7 : PySem.W.codeIn K cd7 "_law_right" = true) (k7 : PySem.W.keepIn K (.ref f7) = true)
    (a8 : PySem.W.nsIn K mainGlobals "law" = some (some (.ref f8))) (l8 : K.lookup f8 = some ⟨oc8, od8, .func (PySem.W.fnOf "law" "law" (defArgs s_law) (defBody s_law) (defScope s_law) .none kV8 dc8 pm8 an8 cd8 ct8), sl8⟩) (c8 : PySem.W.codeIn K cd8 "law" = true) (k8 : PySem.W.keepIn K (.ref f8) = true)
    (z_ValueError : PySem.W.nsIn K mainGlobals "ValueError" = some none)
    (z_abs : PySem.W.nsIn K mainGlobals "abs" = some none)
    (z_all : PySem.W.nsIn K mainGlobals "all" = some none)
    (z_bool : PySem.W.nsIn K mainGlobals "bool" = some none)
    (z_enumerate : PySem.W.nsIn K mainGlobals "enumerate" = some none)
    (z_int : PySem.W.nsIn K mainGlobals "int" = some none)
    (z_isinstance : PySem.W.nsIn K mainGlobals "isinstance" = some none)
    (z_len : PySem.W.nsIn K mainGlobals "len" = some none)
    (z_list : PySem.W.nsIn K mainGlobals "list" = some none)
    (z_max : PySem.W.nsIn K mainGlobals "max" = some none)
    (z_range : PySem.W.nsIn K mainGlobals "range" = some none)
    (z_str : PySem.W.nsIn K mainGlobals "str" = some none)
    (z_tuple : PySem.W.nsIn K mainGlobals "tuple" = some none)
    (z_zip : PySem.W.nsIn K mainGlobals "zip" = some none)
    {C_SkinError C_Barred C_NoStep C_AtEnd C_NotClosed C_NotYet C_NoJoin C_BadRow C_NoSkin B_SkinError B_Barred B_BadRow : Addr}
    {Bod_SkinError Ban_SkinError : Option Addr} {Bsl_SkinError : Array (Option Value)} {Boc_SkinError BkV_SkinError Bdc_SkinError Bpm_SkinError Bcd_SkinError Bct_SkinError : Value}
    {Bod_Barred Ban_Barred : Option Addr} {Bsl_Barred : Array (Option Value)} {Boc_Barred BkV_Barred Bdc_Barred Bpm_Barred Bcd_Barred Bct_Barred : Value}
    {Bod_BadRow Ban_BadRow : Option Addr} {Bsl_BadRow : Array (Option Value)} {Boc_BadRow BkV_BadRow Bdc_BadRow Bpm_BadRow Bcd_BadRow Bct_BadRow : Value}
    {nm_SkinError q_SkinError : Str} {N_SkinError : Addr} {bs_SkinError bm_SkinError : List Value} {sn_SkinError : List Str} {sub_SkinError : List Value} {ab_SkinError : Bool} {col_SkinError : Option Bool} {dd_SkinError : Option Addr} {k0_SkinError k1_SkinError k2_SkinError k3_SkinError k5_SkinError : Option Value}
    {nm_Barred q_Barred : Str} {N_Barred : Addr} {bs_Barred bm_Barred : List Value} {sn_Barred : List Str} {sub_Barred : List Value} {ab_Barred : Bool} {col_Barred : Option Bool} {dd_Barred : Option Addr} {k0_Barred k1_Barred k2_Barred k3_Barred k5_Barred : Option Value}
    {nm_NoStep q_NoStep : Str} {N_NoStep : Addr} {bs_NoStep bm_NoStep : List Value} {sn_NoStep : List Str} {sub_NoStep : List Value} {ab_NoStep : Bool} {col_NoStep : Option Bool} {dd_NoStep : Option Addr} {k0_NoStep k1_NoStep k2_NoStep k3_NoStep k5_NoStep : Option Value}
    {nm_AtEnd q_AtEnd : Str} {N_AtEnd : Addr} {bs_AtEnd bm_AtEnd : List Value} {sn_AtEnd : List Str} {sub_AtEnd : List Value} {ab_AtEnd : Bool} {col_AtEnd : Option Bool} {dd_AtEnd : Option Addr} {k0_AtEnd k1_AtEnd k2_AtEnd k3_AtEnd k5_AtEnd : Option Value}
    {nm_NotClosed q_NotClosed : Str} {N_NotClosed : Addr} {bs_NotClosed bm_NotClosed : List Value} {sn_NotClosed : List Str} {sub_NotClosed : List Value} {ab_NotClosed : Bool} {col_NotClosed : Option Bool} {dd_NotClosed : Option Addr} {k0_NotClosed k1_NotClosed k2_NotClosed k3_NotClosed k5_NotClosed : Option Value}
    {nm_NotYet q_NotYet : Str} {N_NotYet : Addr} {bs_NotYet bm_NotYet : List Value} {sn_NotYet : List Str} {sub_NotYet : List Value} {ab_NotYet : Bool} {col_NotYet : Option Bool} {dd_NotYet : Option Addr} {k0_NotYet k1_NotYet k2_NotYet k3_NotYet k5_NotYet : Option Value}
    {nm_NoJoin q_NoJoin : Str} {N_NoJoin : Addr} {bs_NoJoin bm_NoJoin : List Value} {sn_NoJoin : List Str} {sub_NoJoin : List Value} {ab_NoJoin : Bool} {col_NoJoin : Option Bool} {dd_NoJoin : Option Addr} {k0_NoJoin k1_NoJoin k2_NoJoin k3_NoJoin k5_NoJoin : Option Value}
    {nm_BadRow q_BadRow : Str} {N_BadRow : Addr} {bs_BadRow bm_BadRow : List Value} {sn_BadRow : List Str} {sub_BadRow : List Value} {ab_BadRow : Bool} {col_BadRow : Option Bool} {dd_BadRow : Option Addr} {k0_BadRow k1_BadRow k2_BadRow k3_BadRow k5_BadRow : Option Value}
    {nm_NoSkin q_NoSkin : Str} {N_NoSkin : Addr} {bs_NoSkin bm_NoSkin : List Value} {sn_NoSkin : List Str} {sub_NoSkin : List Value} {ab_NoSkin : Bool} {col_NoSkin : Option Bool} {dd_NoSkin : Option Addr} {k0_NoSkin k1_NoSkin k2_NoSkin k3_NoSkin k5_NoSkin : Option Value}
    (Ca_SkinError : PySem.W.nsIn K mainGlobals "SkinError" = some (some (.ref C_SkinError)))
    (Cl_SkinError : K.lookup C_SkinError = some (excClassObj nm_SkinError q_SkinError C_SkinError N_SkinError bs_SkinError bm_SkinError true sn_SkinError sub_SkinError ab_SkinError col_SkinError dd_SkinError k0_SkinError k1_SkinError k2_SkinError k3_SkinError k5_SkinError "ValueError.__new__"))
    (Cs_SkinError : PySem.W.findIn K (.ref C_SkinError) "__setattr__" = some (some (.builtin "object.__setattr__")))
    (Ce_SkinError : PySem.W.subIn K (.ref C_SkinError) (.type "BaseException") = some true)
    (Ct_SkinError : PySem.W.typeIn K (.ref C_SkinError) = some (.type "type"))
    (Ck_SkinError : PySem.W.keepIn K (.ref C_SkinError) = true)
    (Cg_SkinError : PySem.W.findIn K (.ref C_SkinError) "__getattribute__" = some (some (.builtin "BaseException.__getattribute__")))
    (Ch_SkinError : PySem.W.findIn K (.ref C_SkinError) "__getattr__" = some none)
    (Cd_SkinError : PySem.W.hasDictIn K C_SkinError = true)
    (Cc_SkinError : PySem.W.findIn K (.ref C_SkinError) "__class__" = some (some (.builtin "object.__class__")))
    (Cm_SkinError : PySem.W.mroIn K C_SkinError (.type "object") = some true)
    (Ci_SkinError : PySem.W.findIn K (.ref C_SkinError) "__init__" = some (some (.ref B_SkinError)))
    (Ca_Barred : PySem.W.nsIn K mainGlobals "Barred" = some (some (.ref C_Barred)))
    (Cl_Barred : K.lookup C_Barred = some (excClassObj nm_Barred q_Barred C_Barred N_Barred bs_Barred bm_Barred true sn_Barred sub_Barred ab_Barred col_Barred dd_Barred k0_Barred k1_Barred k2_Barred k3_Barred k5_Barred "ValueError.__new__"))
    (Cs_Barred : PySem.W.findIn K (.ref C_Barred) "__setattr__" = some (some (.builtin "object.__setattr__")))
    (Ce_Barred : PySem.W.subIn K (.ref C_Barred) (.type "BaseException") = some true)
    (Ct_Barred : PySem.W.typeIn K (.ref C_Barred) = some (.type "type"))
    (Ck_Barred : PySem.W.keepIn K (.ref C_Barred) = true)
    (Cg_Barred : PySem.W.findIn K (.ref C_Barred) "__getattribute__" = some (some (.builtin "BaseException.__getattribute__")))
    (Ch_Barred : PySem.W.findIn K (.ref C_Barred) "__getattr__" = some none)
    (Cd_Barred : PySem.W.hasDictIn K C_Barred = true)
    (Cc_Barred : PySem.W.findIn K (.ref C_Barred) "__class__" = some (some (.builtin "object.__class__")))
    (Cm_Barred : PySem.W.mroIn K C_Barred (.type "object") = some true)
    (Ci_Barred : PySem.W.findIn K (.ref C_Barred) "__init__" = some (some (.ref B_Barred)))
    (Cn_Barred_word : PySem.W.findIn K (.ref C_Barred) "word" = some none)
    (Ca_NoStep : PySem.W.nsIn K mainGlobals "NoStep" = some (some (.ref C_NoStep)))
    (Cl_NoStep : K.lookup C_NoStep = some (excClassObj nm_NoStep q_NoStep C_NoStep N_NoStep bs_NoStep bm_NoStep true sn_NoStep sub_NoStep ab_NoStep col_NoStep dd_NoStep k0_NoStep k1_NoStep k2_NoStep k3_NoStep k5_NoStep "ValueError.__new__"))
    (Cs_NoStep : PySem.W.findIn K (.ref C_NoStep) "__setattr__" = some (some (.builtin "object.__setattr__")))
    (Ce_NoStep : PySem.W.subIn K (.ref C_NoStep) (.type "BaseException") = some true)
    (Ct_NoStep : PySem.W.typeIn K (.ref C_NoStep) = some (.type "type"))
    (Ck_NoStep : PySem.W.keepIn K (.ref C_NoStep) = true)
    (Cg_NoStep : PySem.W.findIn K (.ref C_NoStep) "__getattribute__" = some (some (.builtin "BaseException.__getattribute__")))
    (Ch_NoStep : PySem.W.findIn K (.ref C_NoStep) "__getattr__" = some none)
    (Cd_NoStep : PySem.W.hasDictIn K C_NoStep = true)
    (Cc_NoStep : PySem.W.findIn K (.ref C_NoStep) "__class__" = some (some (.builtin "object.__class__")))
    (Cm_NoStep : PySem.W.mroIn K C_NoStep (.type "object") = some true)
    (Ci_NoStep : PySem.W.findIn K (.ref C_NoStep) "__init__" = some (some (.ref B_SkinError)))
    (Ca_AtEnd : PySem.W.nsIn K mainGlobals "AtEnd" = some (some (.ref C_AtEnd)))
    (Cl_AtEnd : K.lookup C_AtEnd = some (excClassObj nm_AtEnd q_AtEnd C_AtEnd N_AtEnd bs_AtEnd bm_AtEnd true sn_AtEnd sub_AtEnd ab_AtEnd col_AtEnd dd_AtEnd k0_AtEnd k1_AtEnd k2_AtEnd k3_AtEnd k5_AtEnd "ValueError.__new__"))
    (Cs_AtEnd : PySem.W.findIn K (.ref C_AtEnd) "__setattr__" = some (some (.builtin "object.__setattr__")))
    (Ce_AtEnd : PySem.W.subIn K (.ref C_AtEnd) (.type "BaseException") = some true)
    (Ct_AtEnd : PySem.W.typeIn K (.ref C_AtEnd) = some (.type "type"))
    (Ck_AtEnd : PySem.W.keepIn K (.ref C_AtEnd) = true)
    (Cg_AtEnd : PySem.W.findIn K (.ref C_AtEnd) "__getattribute__" = some (some (.builtin "BaseException.__getattribute__")))
    (Ch_AtEnd : PySem.W.findIn K (.ref C_AtEnd) "__getattr__" = some none)
    (Cd_AtEnd : PySem.W.hasDictIn K C_AtEnd = true)
    (Cc_AtEnd : PySem.W.findIn K (.ref C_AtEnd) "__class__" = some (some (.builtin "object.__class__")))
    (Cm_AtEnd : PySem.W.mroIn K C_AtEnd (.type "object") = some true)
    (Ci_AtEnd : PySem.W.findIn K (.ref C_AtEnd) "__init__" = some (some (.ref B_SkinError)))
    (Ca_NotClosed : PySem.W.nsIn K mainGlobals "NotClosed" = some (some (.ref C_NotClosed)))
    (Cl_NotClosed : K.lookup C_NotClosed = some (excClassObj nm_NotClosed q_NotClosed C_NotClosed N_NotClosed bs_NotClosed bm_NotClosed true sn_NotClosed sub_NotClosed ab_NotClosed col_NotClosed dd_NotClosed k0_NotClosed k1_NotClosed k2_NotClosed k3_NotClosed k5_NotClosed "ValueError.__new__"))
    (Cs_NotClosed : PySem.W.findIn K (.ref C_NotClosed) "__setattr__" = some (some (.builtin "object.__setattr__")))
    (Ce_NotClosed : PySem.W.subIn K (.ref C_NotClosed) (.type "BaseException") = some true)
    (Ct_NotClosed : PySem.W.typeIn K (.ref C_NotClosed) = some (.type "type"))
    (Ck_NotClosed : PySem.W.keepIn K (.ref C_NotClosed) = true)
    (Cg_NotClosed : PySem.W.findIn K (.ref C_NotClosed) "__getattribute__" = some (some (.builtin "BaseException.__getattribute__")))
    (Ch_NotClosed : PySem.W.findIn K (.ref C_NotClosed) "__getattr__" = some none)
    (Cd_NotClosed : PySem.W.hasDictIn K C_NotClosed = true)
    (Cc_NotClosed : PySem.W.findIn K (.ref C_NotClosed) "__class__" = some (some (.builtin "object.__class__")))
    (Cm_NotClosed : PySem.W.mroIn K C_NotClosed (.type "object") = some true)
    (Ci_NotClosed : PySem.W.findIn K (.ref C_NotClosed) "__init__" = some (some (.ref B_SkinError)))
    (Ca_NotYet : PySem.W.nsIn K mainGlobals "NotYet" = some (some (.ref C_NotYet)))
    (Cl_NotYet : K.lookup C_NotYet = some (excClassObj nm_NotYet q_NotYet C_NotYet N_NotYet bs_NotYet bm_NotYet true sn_NotYet sub_NotYet ab_NotYet col_NotYet dd_NotYet k0_NotYet k1_NotYet k2_NotYet k3_NotYet k5_NotYet "ValueError.__new__"))
    (Cs_NotYet : PySem.W.findIn K (.ref C_NotYet) "__setattr__" = some (some (.builtin "object.__setattr__")))
    (Ce_NotYet : PySem.W.subIn K (.ref C_NotYet) (.type "BaseException") = some true)
    (Ct_NotYet : PySem.W.typeIn K (.ref C_NotYet) = some (.type "type"))
    (Ck_NotYet : PySem.W.keepIn K (.ref C_NotYet) = true)
    (Cg_NotYet : PySem.W.findIn K (.ref C_NotYet) "__getattribute__" = some (some (.builtin "BaseException.__getattribute__")))
    (Ch_NotYet : PySem.W.findIn K (.ref C_NotYet) "__getattr__" = some none)
    (Cd_NotYet : PySem.W.hasDictIn K C_NotYet = true)
    (Cc_NotYet : PySem.W.findIn K (.ref C_NotYet) "__class__" = some (some (.builtin "object.__class__")))
    (Cm_NotYet : PySem.W.mroIn K C_NotYet (.type "object") = some true)
    (Ci_NotYet : PySem.W.findIn K (.ref C_NotYet) "__init__" = some (some (.ref B_SkinError)))
    (Ca_NoJoin : PySem.W.nsIn K mainGlobals "NoJoin" = some (some (.ref C_NoJoin)))
    (Cl_NoJoin : K.lookup C_NoJoin = some (excClassObj nm_NoJoin q_NoJoin C_NoJoin N_NoJoin bs_NoJoin bm_NoJoin true sn_NoJoin sub_NoJoin ab_NoJoin col_NoJoin dd_NoJoin k0_NoJoin k1_NoJoin k2_NoJoin k3_NoJoin k5_NoJoin "ValueError.__new__"))
    (Cs_NoJoin : PySem.W.findIn K (.ref C_NoJoin) "__setattr__" = some (some (.builtin "object.__setattr__")))
    (Ce_NoJoin : PySem.W.subIn K (.ref C_NoJoin) (.type "BaseException") = some true)
    (Ct_NoJoin : PySem.W.typeIn K (.ref C_NoJoin) = some (.type "type"))
    (Ck_NoJoin : PySem.W.keepIn K (.ref C_NoJoin) = true)
    (Cg_NoJoin : PySem.W.findIn K (.ref C_NoJoin) "__getattribute__" = some (some (.builtin "BaseException.__getattribute__")))
    (Ch_NoJoin : PySem.W.findIn K (.ref C_NoJoin) "__getattr__" = some none)
    (Cd_NoJoin : PySem.W.hasDictIn K C_NoJoin = true)
    (Cc_NoJoin : PySem.W.findIn K (.ref C_NoJoin) "__class__" = some (some (.builtin "object.__class__")))
    (Cm_NoJoin : PySem.W.mroIn K C_NoJoin (.type "object") = some true)
    (Ci_NoJoin : PySem.W.findIn K (.ref C_NoJoin) "__init__" = some (some (.ref B_SkinError)))
    (Ca_BadRow : PySem.W.nsIn K mainGlobals "BadRow" = some (some (.ref C_BadRow)))
    (Cl_BadRow : K.lookup C_BadRow = some (excClassObj nm_BadRow q_BadRow C_BadRow N_BadRow bs_BadRow bm_BadRow true sn_BadRow sub_BadRow ab_BadRow col_BadRow dd_BadRow k0_BadRow k1_BadRow k2_BadRow k3_BadRow k5_BadRow "ValueError.__new__"))
    (Cs_BadRow : PySem.W.findIn K (.ref C_BadRow) "__setattr__" = some (some (.builtin "object.__setattr__")))
    (Ce_BadRow : PySem.W.subIn K (.ref C_BadRow) (.type "BaseException") = some true)
    (Ct_BadRow : PySem.W.typeIn K (.ref C_BadRow) = some (.type "type"))
    (Ck_BadRow : PySem.W.keepIn K (.ref C_BadRow) = true)
    (Cg_BadRow : PySem.W.findIn K (.ref C_BadRow) "__getattribute__" = some (some (.builtin "BaseException.__getattribute__")))
    (Ch_BadRow : PySem.W.findIn K (.ref C_BadRow) "__getattr__" = some none)
    (Cd_BadRow : PySem.W.hasDictIn K C_BadRow = true)
    (Cc_BadRow : PySem.W.findIn K (.ref C_BadRow) "__class__" = some (some (.builtin "object.__class__")))
    (Cm_BadRow : PySem.W.mroIn K C_BadRow (.type "object") = some true)
    (Ci_BadRow : PySem.W.findIn K (.ref C_BadRow) "__init__" = some (some (.ref B_BadRow)))
    (Cn_BadRow_row : PySem.W.findIn K (.ref C_BadRow) "row" = some none)
    (Ca_NoSkin : PySem.W.nsIn K mainGlobals "NoSkin" = some (some (.ref C_NoSkin)))
    (Cl_NoSkin : K.lookup C_NoSkin = some (excClassObj nm_NoSkin q_NoSkin C_NoSkin N_NoSkin bs_NoSkin bm_NoSkin true sn_NoSkin sub_NoSkin ab_NoSkin col_NoSkin dd_NoSkin k0_NoSkin k1_NoSkin k2_NoSkin k3_NoSkin k5_NoSkin "ValueError.__new__"))
    (Cs_NoSkin : PySem.W.findIn K (.ref C_NoSkin) "__setattr__" = some (some (.builtin "object.__setattr__")))
    (Ce_NoSkin : PySem.W.subIn K (.ref C_NoSkin) (.type "BaseException") = some true)
    (Ct_NoSkin : PySem.W.typeIn K (.ref C_NoSkin) = some (.type "type"))
    (Ck_NoSkin : PySem.W.keepIn K (.ref C_NoSkin) = true)
    (Cg_NoSkin : PySem.W.findIn K (.ref C_NoSkin) "__getattribute__" = some (some (.builtin "BaseException.__getattribute__")))
    (Ch_NoSkin : PySem.W.findIn K (.ref C_NoSkin) "__getattr__" = some none)
    (Cd_NoSkin : PySem.W.hasDictIn K C_NoSkin = true)
    (Cc_NoSkin : PySem.W.findIn K (.ref C_NoSkin) "__class__" = some (some (.builtin "object.__class__")))
    (Cm_NoSkin : PySem.W.mroIn K C_NoSkin (.type "object") = some true)
    (Ci_NoSkin : PySem.W.findIn K (.ref C_NoSkin) "__init__" = some (some (.ref B_SkinError)))
    (Cp_Barred_SkinError : PySem.W.kitOne K (.ref C_Barred) (.ref C_SkinError) = some true)
    (Cp_Barred_NoStep : PySem.W.kitOne K (.ref C_Barred) (.ref C_NoStep) = some false)
    (Cp_Barred_AtEnd : PySem.W.kitOne K (.ref C_Barred) (.ref C_AtEnd) = some false)
    (Cp_Barred_NotClosed : PySem.W.kitOne K (.ref C_Barred) (.ref C_NotClosed) = some false)
    (Cp_Barred_NotYet : PySem.W.kitOne K (.ref C_Barred) (.ref C_NotYet) = some false)
    (Cp_Barred_NoJoin : PySem.W.kitOne K (.ref C_Barred) (.ref C_NoJoin) = some false)
    (Cp_Barred_BadRow : PySem.W.kitOne K (.ref C_Barred) (.ref C_BadRow) = some false)
    (Cp_Barred_NoSkin : PySem.W.kitOne K (.ref C_Barred) (.ref C_NoSkin) = some false)
    (Cv_Barred : PySem.W.kitOne K (.ref C_Barred) (.type "ValueError") = some true)
    (Cp_NoStep_SkinError : PySem.W.kitOne K (.ref C_NoStep) (.ref C_SkinError) = some true)
    (Cp_NoStep_Barred : PySem.W.kitOne K (.ref C_NoStep) (.ref C_Barred) = some false)
    (Cp_NoStep_AtEnd : PySem.W.kitOne K (.ref C_NoStep) (.ref C_AtEnd) = some false)
    (Cp_NoStep_NotClosed : PySem.W.kitOne K (.ref C_NoStep) (.ref C_NotClosed) = some false)
    (Cp_NoStep_NotYet : PySem.W.kitOne K (.ref C_NoStep) (.ref C_NotYet) = some false)
    (Cp_NoStep_NoJoin : PySem.W.kitOne K (.ref C_NoStep) (.ref C_NoJoin) = some false)
    (Cp_NoStep_BadRow : PySem.W.kitOne K (.ref C_NoStep) (.ref C_BadRow) = some false)
    (Cp_NoStep_NoSkin : PySem.W.kitOne K (.ref C_NoStep) (.ref C_NoSkin) = some false)
    (Cv_NoStep : PySem.W.kitOne K (.ref C_NoStep) (.type "ValueError") = some true)
    (Cp_AtEnd_SkinError : PySem.W.kitOne K (.ref C_AtEnd) (.ref C_SkinError) = some true)
    (Cp_AtEnd_Barred : PySem.W.kitOne K (.ref C_AtEnd) (.ref C_Barred) = some false)
    (Cp_AtEnd_NoStep : PySem.W.kitOne K (.ref C_AtEnd) (.ref C_NoStep) = some false)
    (Cp_AtEnd_NotClosed : PySem.W.kitOne K (.ref C_AtEnd) (.ref C_NotClosed) = some false)
    (Cp_AtEnd_NotYet : PySem.W.kitOne K (.ref C_AtEnd) (.ref C_NotYet) = some false)
    (Cp_AtEnd_NoJoin : PySem.W.kitOne K (.ref C_AtEnd) (.ref C_NoJoin) = some false)
    (Cp_AtEnd_BadRow : PySem.W.kitOne K (.ref C_AtEnd) (.ref C_BadRow) = some false)
    (Cp_AtEnd_NoSkin : PySem.W.kitOne K (.ref C_AtEnd) (.ref C_NoSkin) = some false)
    (Cv_AtEnd : PySem.W.kitOne K (.ref C_AtEnd) (.type "ValueError") = some true)
    (Cp_NotClosed_SkinError : PySem.W.kitOne K (.ref C_NotClosed) (.ref C_SkinError) = some true)
    (Cp_NotClosed_Barred : PySem.W.kitOne K (.ref C_NotClosed) (.ref C_Barred) = some false)
    (Cp_NotClosed_NoStep : PySem.W.kitOne K (.ref C_NotClosed) (.ref C_NoStep) = some false)
    (Cp_NotClosed_AtEnd : PySem.W.kitOne K (.ref C_NotClosed) (.ref C_AtEnd) = some false)
    (Cp_NotClosed_NotYet : PySem.W.kitOne K (.ref C_NotClosed) (.ref C_NotYet) = some false)
    (Cp_NotClosed_NoJoin : PySem.W.kitOne K (.ref C_NotClosed) (.ref C_NoJoin) = some false)
    (Cp_NotClosed_BadRow : PySem.W.kitOne K (.ref C_NotClosed) (.ref C_BadRow) = some false)
    (Cp_NotClosed_NoSkin : PySem.W.kitOne K (.ref C_NotClosed) (.ref C_NoSkin) = some false)
    (Cv_NotClosed : PySem.W.kitOne K (.ref C_NotClosed) (.type "ValueError") = some true)
    (Cp_NotYet_SkinError : PySem.W.kitOne K (.ref C_NotYet) (.ref C_SkinError) = some true)
    (Cp_NotYet_Barred : PySem.W.kitOne K (.ref C_NotYet) (.ref C_Barred) = some false)
    (Cp_NotYet_NoStep : PySem.W.kitOne K (.ref C_NotYet) (.ref C_NoStep) = some false)
    (Cp_NotYet_AtEnd : PySem.W.kitOne K (.ref C_NotYet) (.ref C_AtEnd) = some false)
    (Cp_NotYet_NotClosed : PySem.W.kitOne K (.ref C_NotYet) (.ref C_NotClosed) = some false)
    (Cp_NotYet_NoJoin : PySem.W.kitOne K (.ref C_NotYet) (.ref C_NoJoin) = some false)
    (Cp_NotYet_BadRow : PySem.W.kitOne K (.ref C_NotYet) (.ref C_BadRow) = some false)
    (Cp_NotYet_NoSkin : PySem.W.kitOne K (.ref C_NotYet) (.ref C_NoSkin) = some false)
    (Cv_NotYet : PySem.W.kitOne K (.ref C_NotYet) (.type "ValueError") = some true)
    (Cp_NoJoin_SkinError : PySem.W.kitOne K (.ref C_NoJoin) (.ref C_SkinError) = some true)
    (Cp_NoJoin_Barred : PySem.W.kitOne K (.ref C_NoJoin) (.ref C_Barred) = some false)
    (Cp_NoJoin_NoStep : PySem.W.kitOne K (.ref C_NoJoin) (.ref C_NoStep) = some false)
    (Cp_NoJoin_AtEnd : PySem.W.kitOne K (.ref C_NoJoin) (.ref C_AtEnd) = some false)
    (Cp_NoJoin_NotClosed : PySem.W.kitOne K (.ref C_NoJoin) (.ref C_NotClosed) = some false)
    (Cp_NoJoin_NotYet : PySem.W.kitOne K (.ref C_NoJoin) (.ref C_NotYet) = some false)
    (Cp_NoJoin_BadRow : PySem.W.kitOne K (.ref C_NoJoin) (.ref C_BadRow) = some false)
    (Cp_NoJoin_NoSkin : PySem.W.kitOne K (.ref C_NoJoin) (.ref C_NoSkin) = some false)
    (Cv_NoJoin : PySem.W.kitOne K (.ref C_NoJoin) (.type "ValueError") = some true)
    (Cp_BadRow_SkinError : PySem.W.kitOne K (.ref C_BadRow) (.ref C_SkinError) = some true)
    (Cp_BadRow_Barred : PySem.W.kitOne K (.ref C_BadRow) (.ref C_Barred) = some false)
    (Cp_BadRow_NoStep : PySem.W.kitOne K (.ref C_BadRow) (.ref C_NoStep) = some false)
    (Cp_BadRow_AtEnd : PySem.W.kitOne K (.ref C_BadRow) (.ref C_AtEnd) = some false)
    (Cp_BadRow_NotClosed : PySem.W.kitOne K (.ref C_BadRow) (.ref C_NotClosed) = some false)
    (Cp_BadRow_NotYet : PySem.W.kitOne K (.ref C_BadRow) (.ref C_NotYet) = some false)
    (Cp_BadRow_NoJoin : PySem.W.kitOne K (.ref C_BadRow) (.ref C_NoJoin) = some false)
    (Cp_BadRow_NoSkin : PySem.W.kitOne K (.ref C_BadRow) (.ref C_NoSkin) = some false)
    (Cv_BadRow : PySem.W.kitOne K (.ref C_BadRow) (.type "ValueError") = some true)
    (Cp_NoSkin_SkinError : PySem.W.kitOne K (.ref C_NoSkin) (.ref C_SkinError) = some true)
    (Cp_NoSkin_Barred : PySem.W.kitOne K (.ref C_NoSkin) (.ref C_Barred) = some false)
    (Cp_NoSkin_NoStep : PySem.W.kitOne K (.ref C_NoSkin) (.ref C_NoStep) = some false)
    (Cp_NoSkin_AtEnd : PySem.W.kitOne K (.ref C_NoSkin) (.ref C_AtEnd) = some false)
    (Cp_NoSkin_NotClosed : PySem.W.kitOne K (.ref C_NoSkin) (.ref C_NotClosed) = some false)
    (Cp_NoSkin_NotYet : PySem.W.kitOne K (.ref C_NoSkin) (.ref C_NotYet) = some false)
    (Cp_NoSkin_NoJoin : PySem.W.kitOne K (.ref C_NoSkin) (.ref C_NoJoin) = some false)
    (Cp_NoSkin_BadRow : PySem.W.kitOne K (.ref C_NoSkin) (.ref C_BadRow) = some false)
    (Cv_NoSkin : PySem.W.kitOne K (.ref C_NoSkin) (.type "ValueError") = some true)
    (Bl_SkinError : K.lookup B_SkinError = some ⟨Boc_SkinError, Bod_SkinError, .func (PySem.W.fnOf "__init__" "SkinError.__init__" (defArgs s_iSkinError) (defBody s_iSkinError) (defScope s_iSkinError) .none BkV_SkinError Bdc_SkinError Bpm_SkinError Ban_SkinError Bcd_SkinError Bct_SkinError), Bsl_SkinError⟩)
    (Bc_SkinError : PySem.W.codeIn K Bcd_SkinError "SkinError.__init__" = true)
    (Bk_SkinError : PySem.W.keepIn K (.ref B_SkinError) = true)
    (Bt_SkinError : PySem.W.typeIn K (.ref B_SkinError) = some (.type "function"))
    (Bl_Barred : K.lookup B_Barred = some ⟨Boc_Barred, Bod_Barred, .func (PySem.W.fnOf "__init__" "Barred.__init__" (defArgs s_iBarred) (defBody s_iBarred) (defScope s_iBarred) .none BkV_Barred Bdc_Barred Bpm_Barred Ban_Barred Bcd_Barred Bct_Barred), Bsl_Barred⟩)
    (Bc_Barred : PySem.W.codeIn K Bcd_Barred "Barred.__init__" = true)
    (Bk_Barred : PySem.W.keepIn K (.ref B_Barred) = true)
    (Bt_Barred : PySem.W.typeIn K (.ref B_Barred) = some (.type "function"))
    (Bl_BadRow : K.lookup B_BadRow = some ⟨Boc_BadRow, Bod_BadRow, .func (PySem.W.fnOf "__init__" "BadRow.__init__" (defArgs s_iBadRow) (defBody s_iBadRow) (defScope s_iBadRow) .none BkV_BadRow Bdc_BadRow Bpm_BadRow Ban_BadRow Bcd_BadRow Bct_BadRow), Bsl_BadRow⟩)
    (Bc_BadRow : PySem.W.codeIn K Bcd_BadRow "BadRow.__init__" = true)
    (Bk_BadRow : PySem.W.keepIn K (.ref B_BadRow) = true)
    (Bt_BadRow : PySem.W.typeIn K (.ref B_BadRow) = some (.type "function"))
    (vV : PySem.W.findCls K (.type "ValueError") (.type "type") "__init__" = some (.val (.builtin "ValueError.__init__")))
    (kG : PySem.W.specialIn K (.builtin "object.__class__") "__get__" = some (some (.builtin "getset_descriptor.__get__")))
    (kT : PySem.W.takesIn K (.builtin "object.__class__") = some true)
    (Rd_SkinError : PySem.W.readsIn K C_SkinError (.type "type") = true)
    (Rg_SkinError : PySem.W.specialIn K (.ref C_SkinError) "__getattribute__" = some (some (.builtin "type.__getattribute__")))
    (Rm_SkinError : PySem.W.findCls K (.ref C_SkinError) (.type "type") "__init__" = some (.val (.ref B_SkinError)))
    (Cr_SkinError : PySem.HandSPX.refsVE bm_SkinError = true)
    (Cr_Barred : PySem.HandSPX.refsVE bm_Barred = true)
    (Cr_NoStep : PySem.HandSPX.refsVE bm_NoStep = true)
    (Cr_AtEnd : PySem.HandSPX.refsVE bm_AtEnd = true)
    (Cr_NotClosed : PySem.HandSPX.refsVE bm_NotClosed = true)
    (Cr_NotYet : PySem.HandSPX.refsVE bm_NotYet = true)
    (Cr_NoJoin : PySem.HandSPX.refsVE bm_NoJoin = true)
    (Cr_BadRow : PySem.HandSPX.refsVE bm_BadRow = true)
    (Cr_NoSkin : PySem.HandSPX.refsVE bm_NoSkin = true)
    : ∃ fd : FuncData, (∀ (s : Shared) (v : Value), BindsTo s fd ⟨[v], []⟩ [("_law_script", v)]) ∧ ∀ base : Heap, K.In base → base.Ns mainGlobals mg → FnOk l.prog w K mg base CX0 6 fa fd ["_law_script"] (spLaw K) := by
  have e := hfa.symm.trans (PySem.W.mg_of X G a8)
  cases e
  have F0 := fun_mk (st := s_Lbox) l0 c0 k0
  have b0 := F0.binds (ps := ["_law_cells", "_law_k"]) fun _ _ _ _ _ _ us hl => match us, hl with | [_, _], _ => rfl
  have F1 := fun_mk (st := s_Ltake) l1 c1 k1
  have b1 := F1.binds (ps := ["_law_box_here", "_law_many"]) fun _ _ _ _ _ _ us hl => match us, hl with | [_, _], _ => rfl
  have F2 := fun_mk (st := s_Lfolded) l2 c2 k2
  have b2 := F2.binds (ps := ["_law_script", "_law_many"]) fun _ _ _ _ _ _ us hl => match us, hl with | [_, _], _ => rfl
  have F3 := fun_mk (st := s_Lsame) l3 c3 k3
  have b3 := F3.binds (ps := ["_law_found", "_law_due"]) fun _ _ _ _ _ _ us hl => match us, hl with | [_, _], _ => rfl
  have F4 := fun_mk (st := s_Lshuffled) l4 c4 k4
  have b4 := F4.binds (ps := ["_law_box_here", "_law_some"]) fun _ _ _ _ _ _ us hl => match us, hl with | [_, _], _ => rfl
  have F5 := fun_mk (st := s_Lmade) l5 c5 k5
  have b5 := F5.binds (ps := ["_law_which", "_law_words", "_law_word", "_law_row"]) fun _ _ _ _ _ _ us hl => match us, hl with | [_, _, _, _], _ => rfl
  have F6 := fun_mk (st := s_Lkinds) l6 c6 k6
  have b6 := F6.binds (ps := ["_law_error"]) fun _ _ _ _ _ _ us hl => match us, hl with | [_], _ => rfl
  have F7 := fun_mk (st := s_Lright) l7 c7 k7
  have b7 := F7.binds (ps := ["_law_box_here"]) fun _ _ _ _ _ _ us hl => match us, hl with | [_], _ => rfl
  have F8 := fun_mk (st := s_law) l8 c8 k8
  have b8 := F8.binds (ps := ["_law_script"]) fun _ _ _ _ _ _ us hl => match us, hl with | [_], _ => rfl
  have FB_SkinError := fun_mk (x := "__init__") (qual := "SkinError.__init__") (st := s_iSkinError) Bl_SkinError Bc_SkinError Bk_SkinError
  have bB_SkinError := FB_SkinError.binds (ps := ["self", "words"]) fun _ _ _ _ _ _ us hl => match us, hl with | [_, _], _ => rfl
  have FB_Barred := fun_mk (x := "__init__") (qual := "Barred.__init__") (st := s_iBarred) Bl_Barred Bc_Barred Bk_Barred
  have bB_Barred := FB_Barred.binds (ps := ["self", "words", "word"]) fun _ _ _ _ _ _ us hl => match us, hl with | [_, _, _], _ => rfl
  have FB_BadRow := fun_mk (x := "__init__") (qual := "BadRow.__init__") (st := s_iBadRow) Bl_BadRow Bc_BadRow Bk_BadRow
  have bB_BadRow := FB_BadRow.binds (ps := ["self", "words", "row"]) fun _ _ _ _ _ _ us hl => match us, hl with | [_, _, _], _ => rfl
  have O_SkinError : OexC K C_SkinError := ⟨⟨_, _, _, _, _, _, _, _, _, _, _, _, _, _, _, Cl_SkinError, Cr_SkinError⟩, Cs_SkinError, Ce_SkinError, Ct_SkinError, Ck_SkinError⟩
  have W_SkinError : EX.See K C_SkinError := ⟨by unfold PySem.W.clsIn; rw [Cl_SkinError] <;> rfl, Cg_SkinError, Ch_SkinError, Ce_SkinError, Cd_SkinError, Cc_SkinError, kG, kT, Cm_SkinError⟩
  have O_Barred : OexC K C_Barred := ⟨⟨_, _, _, _, _, _, _, _, _, _, _, _, _, _, _, Cl_Barred, Cr_Barred⟩, Cs_Barred, Ce_Barred, Ct_Barred, Ck_Barred⟩
  have W_Barred : EX.See K C_Barred := ⟨by unfold PySem.W.clsIn; rw [Cl_Barred] <;> rfl, Cg_Barred, Ch_Barred, Ce_Barred, Cd_Barred, Cc_Barred, kG, kT, Cm_Barred⟩
  have O_NoStep : OexC K C_NoStep := ⟨⟨_, _, _, _, _, _, _, _, _, _, _, _, _, _, _, Cl_NoStep, Cr_NoStep⟩, Cs_NoStep, Ce_NoStep, Ct_NoStep, Ck_NoStep⟩
  have W_NoStep : EX.See K C_NoStep := ⟨by unfold PySem.W.clsIn; rw [Cl_NoStep] <;> rfl, Cg_NoStep, Ch_NoStep, Ce_NoStep, Cd_NoStep, Cc_NoStep, kG, kT, Cm_NoStep⟩
  have O_AtEnd : OexC K C_AtEnd := ⟨⟨_, _, _, _, _, _, _, _, _, _, _, _, _, _, _, Cl_AtEnd, Cr_AtEnd⟩, Cs_AtEnd, Ce_AtEnd, Ct_AtEnd, Ck_AtEnd⟩
  have W_AtEnd : EX.See K C_AtEnd := ⟨by unfold PySem.W.clsIn; rw [Cl_AtEnd] <;> rfl, Cg_AtEnd, Ch_AtEnd, Ce_AtEnd, Cd_AtEnd, Cc_AtEnd, kG, kT, Cm_AtEnd⟩
  have O_NotClosed : OexC K C_NotClosed := ⟨⟨_, _, _, _, _, _, _, _, _, _, _, _, _, _, _, Cl_NotClosed, Cr_NotClosed⟩, Cs_NotClosed, Ce_NotClosed, Ct_NotClosed, Ck_NotClosed⟩
  have W_NotClosed : EX.See K C_NotClosed := ⟨by unfold PySem.W.clsIn; rw [Cl_NotClosed] <;> rfl, Cg_NotClosed, Ch_NotClosed, Ce_NotClosed, Cd_NotClosed, Cc_NotClosed, kG, kT, Cm_NotClosed⟩
  have O_NotYet : OexC K C_NotYet := ⟨⟨_, _, _, _, _, _, _, _, _, _, _, _, _, _, _, Cl_NotYet, Cr_NotYet⟩, Cs_NotYet, Ce_NotYet, Ct_NotYet, Ck_NotYet⟩
  have W_NotYet : EX.See K C_NotYet := ⟨by unfold PySem.W.clsIn; rw [Cl_NotYet] <;> rfl, Cg_NotYet, Ch_NotYet, Ce_NotYet, Cd_NotYet, Cc_NotYet, kG, kT, Cm_NotYet⟩
  have O_NoJoin : OexC K C_NoJoin := ⟨⟨_, _, _, _, _, _, _, _, _, _, _, _, _, _, _, Cl_NoJoin, Cr_NoJoin⟩, Cs_NoJoin, Ce_NoJoin, Ct_NoJoin, Ck_NoJoin⟩
  have W_NoJoin : EX.See K C_NoJoin := ⟨by unfold PySem.W.clsIn; rw [Cl_NoJoin] <;> rfl, Cg_NoJoin, Ch_NoJoin, Ce_NoJoin, Cd_NoJoin, Cc_NoJoin, kG, kT, Cm_NoJoin⟩
  have O_BadRow : OexC K C_BadRow := ⟨⟨_, _, _, _, _, _, _, _, _, _, _, _, _, _, _, Cl_BadRow, Cr_BadRow⟩, Cs_BadRow, Ce_BadRow, Ct_BadRow, Ck_BadRow⟩
  have W_BadRow : EX.See K C_BadRow := ⟨by unfold PySem.W.clsIn; rw [Cl_BadRow] <;> rfl, Cg_BadRow, Ch_BadRow, Ce_BadRow, Cd_BadRow, Cc_BadRow, kG, kT, Cm_BadRow⟩
  have O_NoSkin : OexC K C_NoSkin := ⟨⟨_, _, _, _, _, _, _, _, _, _, _, _, _, _, _, Cl_NoSkin, Cr_NoSkin⟩, Cs_NoSkin, Ce_NoSkin, Ct_NoSkin, Ck_NoSkin⟩
  have W_NoSkin : EX.See K C_NoSkin := ⟨by unfold PySem.W.clsIn; rw [Cl_NoSkin] <;> rfl, Cg_NoSkin, Ch_NoSkin, Ce_NoSkin, Cd_NoSkin, Cc_NoSkin, kG, kT, Cm_NoSkin⟩
  let T : Tx K mg := {
    a_Lbox := f0, f_Lbox := _, d_Lbox := ⟨F0, PySem.W.mg_of X G a0, b0⟩,
    a_Ltake := f1, f_Ltake := _, d_Ltake := ⟨F1, PySem.W.mg_of X G a1, b1⟩,
    a_Lfolded := f2, f_Lfolded := _, d_Lfolded := ⟨F2, PySem.W.mg_of X G a2, b2⟩,
    a_Lsame := f3, f_Lsame := _, d_Lsame := ⟨F3, PySem.W.mg_of X G a3, b3⟩,
    a_Lshuffled := f4, f_Lshuffled := _, d_Lshuffled := ⟨F4, PySem.W.mg_of X G a4, b4⟩,
    a_Lmade := f5, f_Lmade := _, d_Lmade := ⟨F5, PySem.W.mg_of X G a5, b5⟩,
    a_Lkinds := f6, f_Lkinds := _, d_Lkinds := ⟨F6, PySem.W.mg_of X G a6, b6⟩,
    a_Lright := f7, f_Lright := _, d_Lright := ⟨F7, PySem.W.mg_of X G a7, b7⟩,
    a_law := fa, f_law := _, d_law := ⟨F8, PySem.W.mg_of X G a8, b8⟩,
    b_SkinError := B_SkinError, h_SkinError := _, e_SkinError := ⟨FB_SkinError, bB_SkinError, Bt_SkinError⟩,
    b_Barred := B_Barred, h_Barred := _, e_Barred := ⟨FB_Barred, bB_Barred, Bt_Barred⟩,
    b_BadRow := B_BadRow, h_BadRow := _, e_BadRow := ⟨FB_BadRow, bB_BadRow, Bt_BadRow⟩,
    vV := vV,
    c_SkinError := C_SkinError, g_SkinError := PySem.W.mg_of X G Ca_SkinError, o_SkinError := O_SkinError, w_SkinError := W_SkinError, i_SkinError := Ci_SkinError,
    c_Barred := C_Barred, g_Barred := PySem.W.mg_of X G Ca_Barred, o_Barred := O_Barred, w_Barred := W_Barred, i_Barred := Ci_Barred,
    n_Barred_word := Cn_Barred_word,
    k_Barred_SkinError := Cp_Barred_SkinError,
    k_Barred_NoStep := Cp_Barred_NoStep,
    k_Barred_AtEnd := Cp_Barred_AtEnd,
    k_Barred_NotClosed := Cp_Barred_NotClosed,
    k_Barred_NotYet := Cp_Barred_NotYet,
    k_Barred_NoJoin := Cp_Barred_NoJoin,
    k_Barred_BadRow := Cp_Barred_BadRow,
    k_Barred_NoSkin := Cp_Barred_NoSkin,
    k_Barred_VE := Cv_Barred,
    c_NoStep := C_NoStep, g_NoStep := PySem.W.mg_of X G Ca_NoStep, o_NoStep := O_NoStep, w_NoStep := W_NoStep, i_NoStep := Ci_NoStep,
    k_NoStep_SkinError := Cp_NoStep_SkinError,
    k_NoStep_Barred := Cp_NoStep_Barred,
    k_NoStep_AtEnd := Cp_NoStep_AtEnd,
    k_NoStep_NotClosed := Cp_NoStep_NotClosed,
    k_NoStep_NotYet := Cp_NoStep_NotYet,
    k_NoStep_NoJoin := Cp_NoStep_NoJoin,
    k_NoStep_BadRow := Cp_NoStep_BadRow,
    k_NoStep_NoSkin := Cp_NoStep_NoSkin,
    k_NoStep_VE := Cv_NoStep,
    c_AtEnd := C_AtEnd, g_AtEnd := PySem.W.mg_of X G Ca_AtEnd, o_AtEnd := O_AtEnd, w_AtEnd := W_AtEnd, i_AtEnd := Ci_AtEnd,
    k_AtEnd_SkinError := Cp_AtEnd_SkinError,
    k_AtEnd_Barred := Cp_AtEnd_Barred,
    k_AtEnd_NoStep := Cp_AtEnd_NoStep,
    k_AtEnd_NotClosed := Cp_AtEnd_NotClosed,
    k_AtEnd_NotYet := Cp_AtEnd_NotYet,
    k_AtEnd_NoJoin := Cp_AtEnd_NoJoin,
    k_AtEnd_BadRow := Cp_AtEnd_BadRow,
    k_AtEnd_NoSkin := Cp_AtEnd_NoSkin,
    k_AtEnd_VE := Cv_AtEnd,
    c_NotClosed := C_NotClosed, g_NotClosed := PySem.W.mg_of X G Ca_NotClosed, o_NotClosed := O_NotClosed, w_NotClosed := W_NotClosed, i_NotClosed := Ci_NotClosed,
    k_NotClosed_SkinError := Cp_NotClosed_SkinError,
    k_NotClosed_Barred := Cp_NotClosed_Barred,
    k_NotClosed_NoStep := Cp_NotClosed_NoStep,
    k_NotClosed_AtEnd := Cp_NotClosed_AtEnd,
    k_NotClosed_NotYet := Cp_NotClosed_NotYet,
    k_NotClosed_NoJoin := Cp_NotClosed_NoJoin,
    k_NotClosed_BadRow := Cp_NotClosed_BadRow,
    k_NotClosed_NoSkin := Cp_NotClosed_NoSkin,
    k_NotClosed_VE := Cv_NotClosed,
    c_NotYet := C_NotYet, g_NotYet := PySem.W.mg_of X G Ca_NotYet, o_NotYet := O_NotYet, w_NotYet := W_NotYet, i_NotYet := Ci_NotYet,
    k_NotYet_SkinError := Cp_NotYet_SkinError,
    k_NotYet_Barred := Cp_NotYet_Barred,
    k_NotYet_NoStep := Cp_NotYet_NoStep,
    k_NotYet_AtEnd := Cp_NotYet_AtEnd,
    k_NotYet_NotClosed := Cp_NotYet_NotClosed,
    k_NotYet_NoJoin := Cp_NotYet_NoJoin,
    k_NotYet_BadRow := Cp_NotYet_BadRow,
    k_NotYet_NoSkin := Cp_NotYet_NoSkin,
    k_NotYet_VE := Cv_NotYet,
    c_NoJoin := C_NoJoin, g_NoJoin := PySem.W.mg_of X G Ca_NoJoin, o_NoJoin := O_NoJoin, w_NoJoin := W_NoJoin, i_NoJoin := Ci_NoJoin,
    k_NoJoin_SkinError := Cp_NoJoin_SkinError,
    k_NoJoin_Barred := Cp_NoJoin_Barred,
    k_NoJoin_NoStep := Cp_NoJoin_NoStep,
    k_NoJoin_AtEnd := Cp_NoJoin_AtEnd,
    k_NoJoin_NotClosed := Cp_NoJoin_NotClosed,
    k_NoJoin_NotYet := Cp_NoJoin_NotYet,
    k_NoJoin_BadRow := Cp_NoJoin_BadRow,
    k_NoJoin_NoSkin := Cp_NoJoin_NoSkin,
    k_NoJoin_VE := Cv_NoJoin,
    c_BadRow := C_BadRow, g_BadRow := PySem.W.mg_of X G Ca_BadRow, o_BadRow := O_BadRow, w_BadRow := W_BadRow, i_BadRow := Ci_BadRow,
    n_BadRow_row := Cn_BadRow_row,
    k_BadRow_SkinError := Cp_BadRow_SkinError,
    k_BadRow_Barred := Cp_BadRow_Barred,
    k_BadRow_NoStep := Cp_BadRow_NoStep,
    k_BadRow_AtEnd := Cp_BadRow_AtEnd,
    k_BadRow_NotClosed := Cp_BadRow_NotClosed,
    k_BadRow_NotYet := Cp_BadRow_NotYet,
    k_BadRow_NoJoin := Cp_BadRow_NoJoin,
    k_BadRow_NoSkin := Cp_BadRow_NoSkin,
    k_BadRow_VE := Cv_BadRow,
    c_NoSkin := C_NoSkin, g_NoSkin := PySem.W.mg_of X G Ca_NoSkin, o_NoSkin := O_NoSkin, w_NoSkin := W_NoSkin, i_NoSkin := Ci_NoSkin,
    k_NoSkin_SkinError := Cp_NoSkin_SkinError,
    k_NoSkin_Barred := Cp_NoSkin_Barred,
    k_NoSkin_NoStep := Cp_NoSkin_NoStep,
    k_NoSkin_AtEnd := Cp_NoSkin_AtEnd,
    k_NoSkin_NotClosed := Cp_NoSkin_NotClosed,
    k_NoSkin_NotYet := Cp_NoSkin_NotYet,
    k_NoSkin_NoJoin := Cp_NoSkin_NoJoin,
    k_NoSkin_BadRow := Cp_NoSkin_BadRow,
    k_NoSkin_VE := Cv_NoSkin,
    rd_SkinError := Rd_SkinError, sg_SkinError := Rg_SkinError, m_SkinError := Rm_SkinError,
    z_ValueError := PySem.W.mg_none_of X G z_ValueError, z_abs := PySem.W.mg_none_of X G z_abs, z_all := PySem.W.mg_none_of X G z_all, z_bool := PySem.W.mg_none_of X G z_bool, z_enumerate := PySem.W.mg_none_of X G z_enumerate, z_int := PySem.W.mg_none_of X G z_int, z_isinstance := PySem.W.mg_none_of X G z_isinstance, z_len := PySem.W.mg_none_of X G z_len, z_list := PySem.W.mg_none_of X G z_list, z_max := PySem.W.mg_none_of X G z_max, z_range := PySem.W.mg_none_of X G z_range, z_str := PySem.W.mg_none_of X G z_str, z_tuple := PySem.W.mg_none_of X G z_tuple, z_zip := PySem.W.mg_none_of X G z_zip }
  exact ⟨_, fun s v => .of_eq rfl, fun base _ _ => ok_law T⟩
end K03
open PySem PySem.W PyProof.Rows
set_option maxHeartbeats 0 in
theorem PySem.Challenge.cw_thinskin_k03_refusals_by_hand_holds : PySem.Challenge.rw_thinskin_k03_refusals_by_hand.Holds := by
  w_on; o_law; k_head; (case hw => w_witness2)
  k_fill
  refine L2.walk_of (l := PySem.Challenge.rw_thinskin_k03_refusals_by_hand) (n := 63) (k := 6) (x := "_law_script") (CX := fun _ => L2.CX0) (sp := fun w => K03.spLaw _) rfl (by decide) rfl ⟨rfl, by decide, by decide⟩ (fun w h Y => PySem.W.kIn_of Y) ?F (fun _ _ a ns hl _ hS => ⟨a, ns, rfl, hS, hl, fun _ => rfl⟩) (fun _ _ _ _ _ h => h)
  case F =>
    intro w mg fa h KX G hmg
    refine' K03.all_mk KX G hmg ?a0 ?l0 ?c0 ?k0 ?a1 ?l1 ?c1 ?k1 ?a2 ?l2 ?c2 ?k2 ?a3 ?l3 ?c3 ?k3 ?a4 ?l4 ?c4 ?k4 ?a5 ?l5 ?c5 ?k5 ?a6 ?l6 ?c6 ?k6 ?a7 ?l7 ?c7 ?k7 ?a8 ?l8 ?c8 ?k8 ?z_ValueError ?z_abs ?z_all ?z_bool ?z_enumerate ?z_int ?z_isinstance ?z_len ?z_list ?z_max ?z_range ?z_str ?z_tuple ?z_zip ?Ca_SkinError ?Cl_SkinError ?Cs_SkinError ?Ce_SkinError ?Ct_SkinError ?Ck_SkinError ?Cg_SkinError ?Ch_SkinError ?Cd_SkinError ?Cc_SkinError ?Cm_SkinError ?Ci_SkinError ?Ca_Barred ?Cl_Barred ?Cs_Barred ?Ce_Barred ?Ct_Barred ?Ck_Barred ?Cg_Barred ?Ch_Barred ?Cd_Barred ?Cc_Barred ?Cm_Barred ?Ci_Barred ?Cn_Barred_word ?Ca_NoStep ?Cl_NoStep ?Cs_NoStep ?Ce_NoStep ?Ct_NoStep ?Ck_NoStep ?Cg_NoStep ?Ch_NoStep ?Cd_NoStep ?Cc_NoStep ?Cm_NoStep ?Ci_NoStep ?Ca_AtEnd ?Cl_AtEnd ?Cs_AtEnd ?Ce_AtEnd ?Ct_AtEnd ?Ck_AtEnd ?Cg_AtEnd ?Ch_AtEnd ?Cd_AtEnd ?Cc_AtEnd ?Cm_AtEnd ?Ci_AtEnd ?Ca_NotClosed ?Cl_NotClosed ?Cs_NotClosed ?Ce_NotClosed ?Ct_NotClosed ?Ck_NotClosed ?Cg_NotClosed ?Ch_NotClosed ?Cd_NotClosed ?Cc_NotClosed ?Cm_NotClosed ?Ci_NotClosed ?Ca_NotYet ?Cl_NotYet ?Cs_NotYet ?Ce_NotYet ?Ct_NotYet ?Ck_NotYet ?Cg_NotYet ?Ch_NotYet ?Cd_NotYet ?Cc_NotYet ?Cm_NotYet ?Ci_NotYet ?Ca_NoJoin ?Cl_NoJoin ?Cs_NoJoin ?Ce_NoJoin ?Ct_NoJoin ?Ck_NoJoin ?Cg_NoJoin ?Ch_NoJoin ?Cd_NoJoin ?Cc_NoJoin ?Cm_NoJoin ?Ci_NoJoin ?Ca_BadRow ?Cl_BadRow ?Cs_BadRow ?Ce_BadRow ?Ct_BadRow ?Ck_BadRow ?Cg_BadRow ?Ch_BadRow ?Cd_BadRow ?Cc_BadRow ?Cm_BadRow ?Ci_BadRow ?Cn_BadRow_row ?Ca_NoSkin ?Cl_NoSkin ?Cs_NoSkin ?Ce_NoSkin ?Ct_NoSkin ?Ck_NoSkin ?Cg_NoSkin ?Ch_NoSkin ?Cd_NoSkin ?Cc_NoSkin ?Cm_NoSkin ?Ci_NoSkin ?Cp_Barred_SkinError ?Cp_Barred_NoStep ?Cp_Barred_AtEnd ?Cp_Barred_NotClosed ?Cp_Barred_NotYet ?Cp_Barred_NoJoin ?Cp_Barred_BadRow ?Cp_Barred_NoSkin ?Cv_Barred ?Cp_NoStep_SkinError ?Cp_NoStep_Barred ?Cp_NoStep_AtEnd ?Cp_NoStep_NotClosed ?Cp_NoStep_NotYet ?Cp_NoStep_NoJoin ?Cp_NoStep_BadRow ?Cp_NoStep_NoSkin ?Cv_NoStep ?Cp_AtEnd_SkinError ?Cp_AtEnd_Barred ?Cp_AtEnd_NoStep ?Cp_AtEnd_NotClosed ?Cp_AtEnd_NotYet ?Cp_AtEnd_NoJoin ?Cp_AtEnd_BadRow ?Cp_AtEnd_NoSkin ?Cv_AtEnd ?Cp_NotClosed_SkinError ?Cp_NotClosed_Barred ?Cp_NotClosed_NoStep ?Cp_NotClosed_AtEnd ?Cp_NotClosed_NotYet ?Cp_NotClosed_NoJoin ?Cp_NotClosed_BadRow ?Cp_NotClosed_NoSkin ?Cv_NotClosed ?Cp_NotYet_SkinError ?Cp_NotYet_Barred ?Cp_NotYet_NoStep ?Cp_NotYet_AtEnd ?Cp_NotYet_NotClosed ?Cp_NotYet_NoJoin ?Cp_NotYet_BadRow ?Cp_NotYet_NoSkin ?Cv_NotYet ?Cp_NoJoin_SkinError ?Cp_NoJoin_Barred ?Cp_NoJoin_NoStep ?Cp_NoJoin_AtEnd ?Cp_NoJoin_NotClosed ?Cp_NoJoin_NotYet ?Cp_NoJoin_BadRow ?Cp_NoJoin_NoSkin ?Cv_NoJoin ?Cp_BadRow_SkinError ?Cp_BadRow_Barred ?Cp_BadRow_NoStep ?Cp_BadRow_AtEnd ?Cp_BadRow_NotClosed ?Cp_BadRow_NotYet ?Cp_BadRow_NoJoin ?Cp_BadRow_NoSkin ?Cv_BadRow ?Cp_NoSkin_SkinError ?Cp_NoSkin_Barred ?Cp_NoSkin_NoStep ?Cp_NoSkin_AtEnd ?Cp_NoSkin_NotClosed ?Cp_NoSkin_NotYet ?Cp_NoSkin_NoJoin ?Cp_NoSkin_BadRow ?Cv_NoSkin ?Bl_SkinError ?Bc_SkinError ?Bk_SkinError ?Bt_SkinError ?Bl_Barred ?Bc_Barred ?Bk_Barred ?Bt_Barred ?Bl_BadRow ?Bc_BadRow ?Bk_BadRow ?Bt_BadRow ?vV ?kG ?kT ?Rd_SkinError ?Rg_SkinError ?Rm_SkinError ?Cr_SkinError ?Cr_Barred ?Cr_NoStep ?Cr_AtEnd ?Cr_NotClosed ?Cr_NotYet ?Cr_NoJoin ?Cr_BadRow ?Cr_NoSkin
    (case a0 => k_is); (case l0 => k_is); (case c0 => k_is); (case k0 => k_is); (case a1 => k_is); (case l1 => k_is); (case c1 => k_is); (case k1 => k_is); (case a2 => k_is); (case l2 => k_is); (case c2 => k_is); (case k2 => k_is); (case a3 => k_is); (case l3 => k_is); (case c3 => k_is); (case k3 => k_is); (case a4 => k_is); (case l4 => k_is); (case c4 => k_is); (case k4 => k_is); (case a5 => k_is); (case l5 => k_is); (case c5 => k_is); (case k5 => k_is); (case a6 => k_is); (case l6 => k_is); (case c6 => k_is); (case k6 => k_is); (case a7 => k_is); (case l7 => k_is); (case c7 => k_is); (case k7 => k_is); (case a8 => k_is); (case l8 => k_is); (case c8 => k_is); (case k8 => k_is); (case z_ValueError => k_is); (case z_abs => k_is); (case z_all => k_is); (case z_bool => k_is); (case z_enumerate => k_is); (case z_int => k_is); (case z_isinstance => k_is); (case z_len => k_is); (case z_list => k_is); (case z_max => k_is); (case z_range => k_is); (case z_str => k_is); (case z_tuple => k_is); (case z_zip => k_is); (case Ca_SkinError => k_is); (case Cl_SkinError => k_is); (case Cs_SkinError => k_is); (case Ce_SkinError => k_is); (case Ct_SkinError => k_is); (case Ck_SkinError => k_is); (case Cg_SkinError => k_is); (case Ch_SkinError => k_is); (case Cd_SkinError => k_is); (case Cc_SkinError => k_is); (case Cm_SkinError => k_is); (case Ci_SkinError => k_is); (case Ca_Barred => k_is); (case Cl_Barred => k_is); (case Cs_Barred => k_is); (case Ce_Barred => k_is); (case Ct_Barred => k_is); (case Ck_Barred => k_is); (case Cg_Barred => k_is); (case Ch_Barred => k_is); (case Cd_Barred => k_is); (case Cc_Barred => k_is); (case Cm_Barred => k_is); (case Ci_Barred => k_is); (case Cn_Barred_word => k_is); (case Ca_NoStep => k_is); (case Cl_NoStep => k_is); (case Cs_NoStep => k_is); (case Ce_NoStep => k_is); (case Ct_NoStep => k_is); (case Ck_NoStep => k_is); (case Cg_NoStep => k_is); (case Ch_NoStep => k_is); (case Cd_NoStep => k_is); (case Cc_NoStep => k_is); (case Cm_NoStep => k_is); (case Ci_NoStep => k_is); (case Ca_AtEnd => k_is); (case Cl_AtEnd => k_is); (case Cs_AtEnd => k_is); (case Ce_AtEnd => k_is); (case Ct_AtEnd => k_is); (case Ck_AtEnd => k_is); (case Cg_AtEnd => k_is); (case Ch_AtEnd => k_is); (case Cd_AtEnd => k_is); (case Cc_AtEnd => k_is); (case Cm_AtEnd => k_is); (case Ci_AtEnd => k_is); (case Ca_NotClosed => k_is); (case Cl_NotClosed => k_is); (case Cs_NotClosed => k_is); (case Ce_NotClosed => k_is); (case Ct_NotClosed => k_is); (case Ck_NotClosed => k_is); (case Cg_NotClosed => k_is); (case Ch_NotClosed => k_is); (case Cd_NotClosed => k_is); (case Cc_NotClosed => k_is); (case Cm_NotClosed => k_is); (case Ci_NotClosed => k_is); (case Ca_NotYet => k_is); (case Cl_NotYet => k_is); (case Cs_NotYet => k_is); (case Ce_NotYet => k_is); (case Ct_NotYet => k_is); (case Ck_NotYet => k_is); (case Cg_NotYet => k_is); (case Ch_NotYet => k_is); (case Cd_NotYet => k_is); (case Cc_NotYet => k_is); (case Cm_NotYet => k_is); (case Ci_NotYet => k_is); (case Ca_NoJoin => k_is); (case Cl_NoJoin => k_is); (case Cs_NoJoin => k_is); (case Ce_NoJoin => k_is); (case Ct_NoJoin => k_is); (case Ck_NoJoin => k_is); (case Cg_NoJoin => k_is); (case Ch_NoJoin => k_is); (case Cd_NoJoin => k_is); (case Cc_NoJoin => k_is); (case Cm_NoJoin => k_is); (case Ci_NoJoin => k_is); (case Ca_BadRow => k_is); (case Cl_BadRow => k_is); (case Cs_BadRow => k_is); (case Ce_BadRow => k_is); (case Ct_BadRow => k_is); (case Ck_BadRow => k_is); (case Cg_BadRow => k_is); (case Ch_BadRow => k_is); (case Cd_BadRow => k_is); (case Cc_BadRow => k_is); (case Cm_BadRow => k_is); (case Ci_BadRow => k_is); (case Cn_BadRow_row => k_is); (case Ca_NoSkin => k_is); (case Cl_NoSkin => k_is); (case Cs_NoSkin => k_is); (case Ce_NoSkin => k_is); (case Ct_NoSkin => k_is); (case Ck_NoSkin => k_is); (case Cg_NoSkin => k_is); (case Ch_NoSkin => k_is); (case Cd_NoSkin => k_is); (case Cc_NoSkin => k_is); (case Cm_NoSkin => k_is); (case Ci_NoSkin => k_is); (case Cp_Barred_SkinError => kit_is); (case Cp_Barred_NoStep => kit_is); (case Cp_Barred_AtEnd => kit_is); (case Cp_Barred_NotClosed => kit_is); (case Cp_Barred_NotYet => kit_is); (case Cp_Barred_NoJoin => kit_is); (case Cp_Barred_BadRow => kit_is); (case Cp_Barred_NoSkin => kit_is); (case Cv_Barred => kit_is); (case Cp_NoStep_SkinError => kit_is); (case Cp_NoStep_Barred => kit_is); (case Cp_NoStep_AtEnd => kit_is); (case Cp_NoStep_NotClosed => kit_is); (case Cp_NoStep_NotYet => kit_is); (case Cp_NoStep_NoJoin => kit_is); (case Cp_NoStep_BadRow => kit_is); (case Cp_NoStep_NoSkin => kit_is); (case Cv_NoStep => kit_is); (case Cp_AtEnd_SkinError => kit_is); (case Cp_AtEnd_Barred => kit_is); (case Cp_AtEnd_NoStep => kit_is); (case Cp_AtEnd_NotClosed => kit_is); (case Cp_AtEnd_NotYet => kit_is); (case Cp_AtEnd_NoJoin => kit_is); (case Cp_AtEnd_BadRow => kit_is); (case Cp_AtEnd_NoSkin => kit_is); (case Cv_AtEnd => kit_is); (case Cp_NotClosed_SkinError => kit_is); (case Cp_NotClosed_Barred => kit_is); (case Cp_NotClosed_NoStep => kit_is); (case Cp_NotClosed_AtEnd => kit_is); (case Cp_NotClosed_NotYet => kit_is); (case Cp_NotClosed_NoJoin => kit_is); (case Cp_NotClosed_BadRow => kit_is); (case Cp_NotClosed_NoSkin => kit_is); (case Cv_NotClosed => kit_is); (case Cp_NotYet_SkinError => kit_is); (case Cp_NotYet_Barred => kit_is); (case Cp_NotYet_NoStep => kit_is); (case Cp_NotYet_AtEnd => kit_is); (case Cp_NotYet_NotClosed => kit_is); (case Cp_NotYet_NoJoin => kit_is); (case Cp_NotYet_BadRow => kit_is); (case Cp_NotYet_NoSkin => kit_is); (case Cv_NotYet => kit_is); (case Cp_NoJoin_SkinError => kit_is); (case Cp_NoJoin_Barred => kit_is); (case Cp_NoJoin_NoStep => kit_is); (case Cp_NoJoin_AtEnd => kit_is); (case Cp_NoJoin_NotClosed => kit_is); (case Cp_NoJoin_NotYet => kit_is); (case Cp_NoJoin_BadRow => kit_is); (case Cp_NoJoin_NoSkin => kit_is); (case Cv_NoJoin => kit_is); (case Cp_BadRow_SkinError => kit_is); (case Cp_BadRow_Barred => kit_is); (case Cp_BadRow_NoStep => kit_is); (case Cp_BadRow_AtEnd => kit_is); (case Cp_BadRow_NotClosed => kit_is); (case Cp_BadRow_NotYet => kit_is); (case Cp_BadRow_NoJoin => kit_is); (case Cp_BadRow_NoSkin => kit_is); (case Cv_BadRow => kit_is); (case Cp_NoSkin_SkinError => kit_is); (case Cp_NoSkin_Barred => kit_is); (case Cp_NoSkin_NoStep => kit_is); (case Cp_NoSkin_AtEnd => kit_is); (case Cp_NoSkin_NotClosed => kit_is); (case Cp_NoSkin_NotYet => kit_is); (case Cp_NoSkin_NoJoin => kit_is); (case Cp_NoSkin_BadRow => kit_is); (case Cv_NoSkin => kit_is); (case Bl_SkinError => k_is); (case Bc_SkinError => k_is); (case Bk_SkinError => k_is); (case Bt_SkinError => k_is); (case Bl_Barred => k_is); (case Bc_Barred => k_is); (case Bk_Barred => k_is); (case Bt_Barred => k_is); (case Bl_BadRow => k_is); (case Bc_BadRow => k_is); (case Bk_BadRow => k_is); (case Bt_BadRow => k_is); (case vV => k_is); (case kG => k_is); (case kT => k_is); (case Rd_SkinError => k_is); (case Rg_SkinError => k_is); (case Rm_SkinError => k_is)
    (case Cr_SkinError => decide +kernel); (case Cr_Barred => decide +kernel); (case Cr_NoStep => decide +kernel); (case Cr_AtEnd => decide +kernel); (case Cr_NotClosed => decide +kernel); (case Cr_NotYet => decide +kernel); (case Cr_NoJoin => decide +kernel); (case Cr_BadRow => decide +kernel); (case Cr_NoSkin => decide +kernel)



