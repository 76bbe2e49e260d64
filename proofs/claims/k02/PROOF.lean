import PyProof.Rows.All
import Wide.All
import OpenK.AllK
import Wide.FinOn
import HandS.ForMost
import HandS.Wide
import HandS.Zip
import HandS.Walk
import HandS.IsInst
import HandS.Conv
import HandS.Style
import HandS.NoneIn
import PySem.Challenge.RW_thinskin_k02_fractions
set_option Elab.async false
set_option linter.all false
set_option maxRecDepth 100000
set_option maxHeartbeats 4000000
namespace K02
open PySem PySem.Spec PyProof.Rows L2
/-! ### the text (by an own tool) -/
def topS (i : Nat) : Stmt := PySem.Challenge.pw_thinskin_k02_fractions.main.body.getD i (.Pass ⟨0, 0, 0, 0⟩)
abbrev s_common_divisor : Stmt := topS 1
theorem sc_common_divisor : FnScope ["one", "other"] ["one", "other"] (defScope s_common_divisor) := ⟨rfl, rfl, rfl, by decide +kernel, rfl, by decide +kernel, by decide +kernel⟩
abbrev s_fraction_of : Stmt := topS 2
theorem sc_fraction_of : FnScope ["n", "d", "divisor"] ["n", "d"] (defScope s_fraction_of) := ⟨rfl, rfl, rfl, by decide +kernel, rfl, by decide +kernel, by decide +kernel⟩
abbrev s_compare_two : Stmt := topS 3
theorem sc_compare_two : FnScope ["one", "other", "left", "right"] ["one", "other"] (defScope s_compare_two) := ⟨rfl, rfl, rfl, by decide +kernel, rfl, by decide +kernel, by decide +kernel⟩
abbrev s_Lbox : Stmt := topS 5
theorem sc_Lbox : FnScope ["_law_cells", "_law_k", "_law_cell"] ["_law_cells", "_law_k"] (defScope s_Lbox) := ⟨rfl, rfl, rfl, by decide +kernel, rfl, by decide +kernel, by decide +kernel⟩
abbrev s_Ltake : Stmt := topS 6
theorem sc_Ltake : FnScope ["_law_box_here", "_law_many", "_law_found", "_law_once", "_law_twice"] ["_law_box_here", "_law_many"] (defScope s_Ltake) := ⟨rfl, rfl, rfl, by decide +kernel, rfl, by decide +kernel, by decide +kernel⟩
abbrev s_Lfolded : Stmt := topS 7
theorem sc_Lfolded : FnScope ["_law_script", "_law_many", "_law_cells", "_law_k", "_law_cell"] ["_law_script", "_law_many"] (defScope s_Lfolded) := ⟨rfl, rfl, rfl, by decide +kernel, rfl, by decide +kernel, by decide +kernel⟩
abbrev s_Lsame : Stmt := topS 8
theorem sc_Lsame : FnScope ["_law_found", "_law_due", "_law_one", "_law_other"] ["_law_found", "_law_due"] (defScope s_Lsame) := ⟨rfl, rfl, rfl, by decide +kernel, rfl, by decide +kernel, by decide +kernel⟩
abbrev s_Lnumber : Stmt := topS 9
theorem sc_Lnumber : FnScope ["_law_box_here", "_law_way", "_law_most", "_law_number_here"] ["_law_box_here"] (defScope s_Lnumber) := ⟨rfl, rfl, rfl, by decide +kernel, rfl, by decide +kernel, by decide +kernel⟩
abbrev s_Llowest : Stmt := topS 10
theorem sc_Llowest : FnScope ["_law_n", "_law_d", "_law_one", "_law_other"] ["_law_n", "_law_d"] (defScope s_Llowest) := ⟨rfl, rfl, rfl, by decide +kernel, rfl, by decide +kernel, by decide +kernel⟩
abbrev s_Lright : Stmt := topS 11
theorem sc_Lright : FnScope ["_law_box_here", "_law_n", "_law_d", "_law_more", "_law_other", "_law_k", "_law_one", "_law_some", "_law_due", "_law_two", "_law_turn", "_law_found", "_law_side"] ["_law_box_here"] (defScope s_Lright) := ⟨rfl, rfl, rfl, by decide +kernel, rfl, by decide +kernel, by decide +kernel⟩
abbrev s_law : Stmt := topS 12
theorem sc_law : FnScope ["_law_script", "_law_cells", "_law_k"] ["_law_script"] (defScope s_law) := ⟨rfl, rfl, rfl, by decide +kernel, rfl, by decide +kernel, by decide +kernel⟩
structure Df (K : PySem.W.Frag) (mg : Str → Option Value) (x : Str) (st : Stmt) (f : Addr) (fd : FuncData) (ps : List Str) : Prop where
  F : Fun K x x st f fd
  g : mg x = some (.ref f)
  b : Binds K fd ps []
structure Tx (K : PySem.W.Frag) (mg : Str → Option Value) where
  a_common_divisor : Addr
  f_common_divisor : FuncData
  a_fraction_of : Addr
  f_fraction_of : FuncData
  a_compare_two : Addr
  f_compare_two : FuncData
  a_Lbox : Addr
  f_Lbox : FuncData
  a_Ltake : Addr
  f_Ltake : FuncData
  a_Lfolded : Addr
  f_Lfolded : FuncData
  a_Lsame : Addr
  f_Lsame : FuncData
  a_Lnumber : Addr
  f_Lnumber : FuncData
  a_Llowest : Addr
  f_Llowest : FuncData
  a_Lright : Addr
  f_Lright : FuncData
  a_law : Addr
  f_law : FuncData
  d_common_divisor : Df K mg "common_divisor" s_common_divisor a_common_divisor f_common_divisor ["one", "other"]
  d_fraction_of : Df K mg "fraction_of" s_fraction_of a_fraction_of f_fraction_of ["n", "d"]
  d_compare_two : Df K mg "compare_two" s_compare_two a_compare_two f_compare_two ["one", "other"]
  d_Lbox : Df K mg "_law_box" s_Lbox a_Lbox f_Lbox ["_law_cells", "_law_k"]
  d_Ltake : Df K mg "_law_take" s_Ltake a_Ltake f_Ltake ["_law_box_here", "_law_many"]
  d_Lfolded : Df K mg "_law_folded" s_Lfolded a_Lfolded f_Lfolded ["_law_script", "_law_many"]
  d_Lsame : Df K mg "_law_same" s_Lsame a_Lsame f_Lsame ["_law_found", "_law_due"]
  d_Lnumber : Df K mg "_law_number" s_Lnumber a_Lnumber f_Lnumber ["_law_box_here"]
  d_Llowest : Df K mg "_law_lowest" s_Llowest a_Llowest f_Llowest ["_law_n", "_law_d"]
  d_Lright : Df K mg "_law_right" s_Lright a_Lright f_Lright ["_law_box_here"]
  d_law : Df K mg "law" s_law a_law f_law ["_law_script"]
  z_abs : mg "abs" = none
  z_all : mg "all" = none
  z_bool : mg "bool" = none
  z_enumerate : mg "enumerate" = none
  z_int : mg "int" = none
  z_isinstance : mg "isinstance" = none
  z_len : mg "len" = none
  z_list : mg "list" = none
  z_max : mg "max" = none
  z_range : mg "range" = none
  z_str : mg "str" = none
  z_tuple : mg "tuple" = none
  z_zip : mg "zip" = none
theorem op_fdivX {X : Cx} : OpR X (binaryOp .FloorDiv) (rI (fun _ j => j ≠ 0 ∧ j.natAbs.log2 < 9000) fun i j => .int (i.fdiv j)) := opI fun i j _ _ _ _ _ hc q => floordiv_int hc.1 q (.inl (PyProof.noPylong_of_log2 hc.2))
/-! ### mathematics -/
theorem gcd_fmod (x y : Int) (h : y ≠ 0) : Int.gcd y (x.fmod y) = Int.gcd x y := by
  have e : x.fmod y = x - y * (x.fdiv y) := by
    have := Int.mul_fdiv_add_fmod x y
    omega
  rw [e, Int.gcd_comm x y]
  exact Int.gcd_sub_mul_right_right y x (x.fdiv y) |> fun h => by simpa [Int.mul_comm] using h
theorem fmod_small (x y : Int) (h : y ≠ 0) : (x.fmod y).natAbs < y.natAbs := by
  rw [Int.fmod_eq_emod]
  have h1 := Int.emod_nonneg x h
  have h2 := Int.emod_lt x h
  split
  · omega
  · rename_i c
    have h3 : x % y ≠ 0 := fun z => c (.inr (Int.dvd_of_emod_eq_zero z))
    omega
section
variable {P : Program} {w : World} {K : PySem.W.Frag} {mg : Str → Option Value} {base : Heap}
def spGcd : Sp := fun vs H Q _ => ∃ a b : Int, vs = [.int a, .int b] ∧ Q (.int (Int.gcd a b : Nat)) H
theorem ok_common_divisor (T : Tx K mg) : FnOk P w K mg base CX0 1 T.a_common_divisor T.f_common_divisor ["one", "other"] spGcd := by
  refine T.d_common_divisor.F.ok sc_common_divisor (fun vs H Q E h => ?_) (fun cdv A outer s H vs Q E hr h => ?_)
  · obtain ⟨a, b, rfl, _⟩ := h
    rfl
  · obtain ⟨a, b, rfl, q⟩ := h
    refine ⟨_, (pss_cons
    (ps_while PassesOwn.never (pt_cmpR op_ne (pv 1) pe_int (nomark _)) (pss_one
        (ps_par (i := 0) (j := 1) (by rfl) sc_common_divisor.nd rfl rfl (by decide) rfl rfl (pa_cons (pv 1) (pa_cons (pe_op op_modN (pv 0) (pv 1)) pa_nil)) (by rfl))))
    (pss_one
    (ps_ret (pe_callB call_abs (by rfl) T.z_abs (by decide +kernel) (pa_cons (pv 0) pa_nil))))), ?_⟩
    refine ⟨fun m σ H' => ∃ x y : Int, σ = [some (.int x), some (.int y)] ∧ m = y.natAbs ∧ Int.gcd x y = Int.gcd a b ∧ H' = H, ⟨_, a, b, rfl, rfl, rfl, rfl⟩, fun m σ H' hW => ?_⟩
    obtain ⟨x, y, rfl, rfl, hg, rfl⟩ := hW
    refine ⟨_, rfl, rfl, _, rfl, ite2 (fun e => ?_) (fun e => ?_)⟩
    · have hy : y ≠ 0 := fun z => by subst z; simp at e
      refine ⟨_, fun σ' H' n => n, _, rfl, _, rfl, _, rfl, _, _, rfl, rfl, hy, _, _, rfl, ?_⟩
      exact ⟨_, fmod_small x y hy, _, _, rfl, rfl, (gcd_fmod x y hy).trans hg, rfl⟩
    · have hy : y = 0 := by
        by_cases z : y = 0
        · exact z
        · exact absurd (by simpa using z) e
      subst hy
      refine ⟨_, rfl, x, rfl, ?_⟩
      have e2 : (if x < 0 then -x else x) = ((Int.gcd a b : Nat) : Int) := by
        rw [← hg, Int.gcd_zero_right]
        split <;> omega
      rw [e2]
      exact q
/-! ### fractions in lowest terms -/
def lowN (n d : Int) : Int := if d < 0 then -(n / (Int.gcd n d : Nat)) else n / (Int.gcd n d : Nat)
def lowD (n d : Int) : Int := if d < 0 then -(d / (Int.gcd n d : Nat)) else d / (Int.gcd n d : Nat)
theorem gcd_pos {n d : Int} (h : d ≠ 0) : 0 < Int.gcd n d := Int.gcd_pos_of_ne_zero_right n h
theorem gcd_le {n d : Int} (h : d ≠ 0) : Int.gcd n d ≤ d.natAbs := Nat.le_of_dvd (Int.natAbs_pos.mpr h) (Int.gcd_dvd_natAbs_right n d)
theorem fdiv_neg' {n : Int} {g : Nat} (hg : 0 < g) (h : (g : Int) ∣ n) : n.fdiv (-(g : Int)) = -(n / (g : Int)) := by
  rw [Int.fdiv_eq_ediv, if_pos (.inr (Int.neg_dvd.mpr h)), Int.ediv_neg]
  omega
def spFrac : Sp := fun vs H Q _ => ∃ n d : Int, vs = [.int n, .int d] ∧ d ≠ 0 ∧ d.natAbs < 2 ^ 8000 ∧ ∀ p, H p = none → Q (.ref p) (upd H p (.tup [.int (lowN n d), .int (lowD n d)]))
theorem ok_fraction_of (T : Tx K mg) : FnOk P w K mg base CX0 2 T.a_fraction_of T.f_fraction_of ["n", "d"] spFrac := by
  have G_common_divisor : FnOk P w K mg base CX0 1 T.a_common_divisor T.f_common_divisor ["one", "other"] spGcd := ok_common_divisor T
  refine T.d_fraction_of.F.ok sc_fraction_of (fun vs H Q E h => ?_) (fun cdv A outer s H vs Q E hr h => ?_)
  · obtain ⟨a, b, rfl, _⟩ := h
    rfl
  · obtain ⟨n, d, rfl, hd, hw, q⟩ := h
    refine ⟨_, (pss_cons
    (ps_set (i := 2) sc_fraction_of.nd rfl (.inl rfl) (pe_call G_common_divisor (hr.mono (by decide)) (by rfl) T.d_common_divisor.g T.d_common_divisor.F.kp T.d_common_divisor.b .nil pass0 (pa_cons (pv 0) (pa_cons (pv 1) pa_nil))))
    (pss_cons
    (ps_if (pt_cmpR op_lt (pv 1) pe_int (nomark _)) (pss_one
        (ps_set (i := 2) sc_fraction_of.nd rfl (.inl rfl) (pe_un un_neg (pv 2)))) pss_nil)
    (pss_one
    (ps_ret (pe_tup (pa_cons (pe_op op_fdivX (pv 0) (pv 2)) (pa_cons (pe_op op_fdivX (pv 1) (pv 2)) pa_nil))))))), ?_⟩
    have g0 := gcd_pos (n := n) hd
    have gl : (Int.gcd n d).log2 < 9000 := by
      have h1 : Int.gcd n d < 2 ^ 8000 := Nat.lt_of_le_of_lt (gcd_le hd) hw
      have h2 := PySem.Flt.log2_lt_of (show 0 < 8000 by decide) h1
      omega
    refine ⟨_, rfl, _, rfl, n, d, rfl, ?_⟩
    refine ⟨_, rfl, _, _, rfl, rfl, _, rfl, ite2 (fun e => ?_) (fun e => ?_)⟩
    · have hn : d < 0 := of_decide_eq_true e
      refine ⟨_, rfl, _, rfl, ?_⟩
      refine ⟨_, rfl, _, rfl, _, _, rfl, rfl, ⟨by omega, by rw [Int.natAbs_neg]; exact gl⟩, _, rfl, _, rfl, _, _, rfl, rfl, ⟨by omega, by rw [Int.natAbs_neg]; exact gl⟩, by show 2 ≤ sizeLine; decide, fun p hp => ?_⟩
      have e1 : lowN n d = n.fdiv (-((Int.gcd n d : Nat) : Int)) := by
        unfold lowN
        rw [if_pos hn, fdiv_neg' g0 (Int.gcd_dvd_left ..)]
      have e2 : lowD n d = d.fdiv (-((Int.gcd n d : Nat) : Int)) := by
        unfold lowD
        rw [if_pos hn, fdiv_neg' g0 (Int.gcd_dvd_right ..)]
      have := q p hp
      rw [e1, e2] at this
      exact this
    · have hn : ¬ d < 0 := fun z => e (decide_eq_true z)
      refine ⟨_, rfl, _, rfl, _, _, rfl, rfl, ⟨by omega, gl⟩, _, rfl, _, rfl, _, _, rfl, rfl, ⟨by omega, gl⟩, by show 2 ≤ sizeLine; decide, fun p hp => ?_⟩
      have e1 : lowN n d = n.fdiv ((Int.gcd n d : Nat) : Int) := by
        unfold lowN
        rw [if_neg hn, Int.fdiv_eq_ediv_of_nonneg _ (by omega)]
      have e2 : lowD n d = d.fdiv ((Int.gcd n d : Nat) : Int) := by
        unfold lowD
        rw [if_neg hn, Int.fdiv_eq_ediv_of_nonneg _ (by omega)]
      have := q p hp
      rw [e1, e2] at this
      exact this
/-! ### compare_two -/
def cmpI (x y : Int) : Int := if x < y then -1 else if x > y then 1 else 0
def Sz (x : Int) : Prop := x.natAbs < 2 ^ 8000
def spCmp (K : PySem.W.Frag) : Sp := fun vs H Q _ => ∃ (a b : Addr) (n d n' d' : Int), vs = [.ref a, .ref b] ∧ SqT K H a [.int n, .int d] ∧ SqT K H b [.int n', .int d'] ∧ Sz n ∧ Sz d ∧ Sz n' ∧ Sz d' ∧ Q (.int (cmpI (n * d') (n' * d))) H
theorem Sz.mul {x y : Int} (h : Sz x) (h' : Sz y) : CMulW x y := wide_mul h h' (by decide) (by decide) (by decide)
theorem ok_compare_two (T : Tx K mg) : FnOk P w K mg base CX0 1 T.a_compare_two T.f_compare_two ["one", "other"] (spCmp K) := by
  refine T.d_compare_two.F.ok sc_compare_two (fun vs H Q E h => ?_) (fun cdv A outer s H vs Q E hr h => ?_)
  · obtain ⟨a, b, _, _, _, _, rfl, _⟩ := h
    rfl
  · obtain ⟨a, b, n, d, n', d', rfl, ha, hb, z1, z2, z3, z4, q⟩ := h
    refine ⟨_, (pss_cons
    (ps_set (i := 2) sc_compare_two.nd rfl (.inl rfl) (pe_op op_mulW (pe_ix ix_tup (pv 0) pe_int (fun _ _ => rfl)) (pe_ix ix_tup (pv 1) pe_int (fun _ _ => rfl))))
    (pss_cons
    (ps_set (i := 3) sc_compare_two.nd rfl (.inl rfl) (pe_op op_mulW (pe_ix ix_tup (pv 1) pe_int (fun _ _ => rfl)) (pe_ix ix_tup (pv 0) pe_int (fun _ _ => rfl))))
    (pss_cons
    (ps_if (pt_cmpR op_lt (pv 2) (pv 3) (nomark _)) (pss_one
        (ps_ret (pe_un un_neg pe_int))) pss_nil)
    (pss_cons
    (ps_if (pt_cmpR op_gt (pv 2) (pv 3) (nomark _)) (pss_one
        (ps_ret pe_int)) pss_nil)
    (pss_one
    (ps_ret pe_int)))))), ?_⟩
    refine ⟨_, rfl, _, _, _, _, rfl, rfl, ha, atI_nat (j := 0) rfl, _, rfl, _, _, _, _, rfl, rfl, hb, atI_nat (j := 1) rfl, _, _, rfl, rfl, z1.mul z4, ?_⟩
    refine ⟨_, rfl, _, _, _, _, rfl, rfl, hb, atI_nat (j := 0) rfl, _, rfl, _, _, _, _, rfl, rfl, ha, atI_nat (j := 1) rfl, _, _, rfl, rfl, z3.mul z2, ?_⟩
    unfold cmpI at q
    refine ⟨_, rfl, _, rfl, _, _, rfl, rfl, _, rfl, ite2 (fun e => ?_) (fun e => ?_)⟩
    · rw [if_pos (of_decide_eq_true e)] at q
      exact ⟨1, rfl, q⟩
    · rw [if_neg (fun z => e (decide_eq_true z))] at q
      refine ⟨_, rfl, _, rfl, _, _, rfl, rfl, _, rfl, ite2 (fun e => ?_) (fun e => ?_)⟩
      · rw [if_pos (of_decide_eq_true e)] at q
        exact q
      · rw [if_neg (fun z => e (decide_eq_true z))] at q
        exact q
end
/-! ### the law's own helpers -/
theorem itePos {c A B : Prop} [Decidable c] (hc : c) (h : A) : if c then A else B := by
  rw [if_pos hc]
  exact h
theorem iteNeg {c A B : Prop} [Decidable c] (hc : ¬ c) (h : B) : if c then A else B := by
  rw [if_neg hc]
  exact h
theorem bl_true {Q : VK} {b : Bool} {H : Hp} (e : b = true) (h : Q (.bl true) H) : Q (.bl b) H := by
  rw [e]
  exact h
theorem same_new {H : Hp} {p : Addr} {o : HO} (h : H p = none) : Same H (upd H p o) := fun b x e => by
  rw [upd_ne (ne_of_none e h)]
  exact e
theorem same_put {H H' : Hp} {p : Addr} {o : HO} (s : Same H H') (h : H p = none) : Same H (upd H' p o) := fun b x e => by
  rw [upd_ne (ne_of_none e h)]
  exact s b x e
theorem Same.tup {K : PySem.W.Frag} {H H' : Hp} {a : Addr} {xs : List V} (e : Same H H') (h : SqT K H a xs) : SqT K H' a xs := by
  rcases h with (h | ⟨o, h⟩) | h
  · exact .inl (.inl (e _ _ h))
  · exact .inl (.inr ⟨o, e _ _ h⟩)
  · exact .inr h
theorem b01 (b : Bool) : (-(2 ^ 64) < (if b = true then 1 else 0 : Int)) ∧ ((if b = true then 1 else 0 : Int) < 2 ^ 64) := by cases b <;> decide
theorem b01' (b : Bool) : 0 ≤ (if b = true then 1 else 0 : Int) := by cases b <;> decide
/-- the box: three numbers; the third at most n -/
def BoxO (o : HO) (n : Nat) : Prop := ∃ b0 b1 b2 : Int, o = .lst [.int b0, .int b1, .int b2] ∧ 0 ≤ b0 ∧ 0 ≤ b1 ∧ b1 < 2147483629 ∧ 0 ≤ b2 ∧ b2 ≤ n
theorem BoxO.mono {o : HO} {n m : Nat} (h : BoxO o n) (l : n ≤ m) : BoxO o m := by
  obtain ⟨b0, b1, b2, e, h0, h1, h2, h3, h4⟩ := h
  exact ⟨b0, b1, b2, e, h0, h1, h2, h3, by omega⟩
section
variable {P : Program} {w : World} {K : PySem.W.Frag} {mg : Str → Option Value} {base : Heap}
def spBox (K : PySem.W.Frag) : Sp := fun vs H Q _ => ∃ (a : Addr) (cs : List Int) (k : Nat), vs = [.ref a, .int k] ∧ SqL K H a (cs.map V.int) ∧ k ≤ 1000 ∧ ∀ p o, H p = none → BoxO o 0 → Q (.ref p) (upd H p o)
theorem ok_Lbox (T : Tx K mg) : FnOk P w K mg base CX0 1 T.a_Lbox T.f_Lbox ["_law_cells", "_law_k"] (spBox K) := by
  refine T.d_Lbox.F.ok sc_Lbox (fun vs H Q E h => ?_) (fun cdv A outer s H vs Q E hr h => ?_)
  · obtain ⟨a, cs, k, rfl, _⟩ := h
    rfl
  · obtain ⟨a, cs, k, rfl, hs, hk, q⟩ := h
    refine ⟨_, (pss_cons
    (ps_set (i := 2) sc_Lbox.nd rfl (.inl rfl) (pe_ifExp (pt_cmpR op_lt (pv 1) (pe_callB call_len_seq (by rfl) T.z_len (by decide +kernel) (pa_cons (pv 0) pa_nil)) (nomark _)) (pe_ix ix_list (pv 0) (pv 1) (fun _ _ => rfl)) pe_int))
    (pss_one
    (ps_ret (pe_lst (pa_cons (pe_op op_mul (pe_callB call_abs (by rfl) T.z_abs (by decide +kernel) (pa_cons (pv 2) pa_nil)) (pe_callTy call_int1 (by rfl) T.z_int (by decide +kernel) (pa_cons (pe_cmpR op_ge (pe_callB call_abs (by rfl) T.z_abs (by decide +kernel) (pa_cons (pv 2) pa_nil)) (pe_op op_pow pe_int pe_int) (nomark _)) pa_nil))) (pa_cons (pe_op op_mod (pe_op op_add (pv 2) (pe_op op_mul pe_int (pv 1))) pe_int) (pa_cons pe_int pa_nil))))))), ?_⟩
    have rest : ∀ c : Int, (tRet (tLst (tCons (tOp (rI CMul fun i j => .int (i * j)) (tCB (fun xs H Q => ∃ i, xs = [.int i] ∧ Q (.int (if i < 0 then -i else i)) H) (tCons (tVar 2) tNil)) (tCB (fun xs H Q => (∃ i, xs = [.int i] ∧ Q (.int i) H) ∨ ∃ k, xs = [.bl k] ∧ Q (.int (if k then 1 else 0)) H) (tCons (tOp (rI0 fun i j => .bl (decide (j ≤ i))) (tCB (fun xs H Q => ∃ i, xs = [.int i] ∧ Q (.int (if i < 0 then -i else i)) H) (tCons (tVar 2) tNil)) (tOp (rI CPow fun i j => .int (i ^ j.toNat)) (tC (.int 10)) (tC (.int 18)))) tNil)))
        (tCons (tOp (rI (fun _ j => 0 < j) fun i j => .int (i % j)) (tOp (rI0 fun i j => .int (i + j)) (tVar 2) (tOp (rI CMul fun i j => .int (i * j)) (tC (.int 7907)) (tVar 1))) (tC (.int 2147483629))) (tCons (tC (.int 0)) tNil))))) { nx := fun _ H' => Q .non H', rt := Q } [some (.ref a), some (.int k), some (.int c)] H := by
      intro c
      have hab : 0 ≤ (if c < 0 then -c else c) := by split <;> omega
      refine ⟨_, rfl, _, rfl, _, rfl, _, rfl, _, _, rfl, rfl, ⟨by decide, by decide, by decide⟩, _, _, rfl, rfl, .inr ⟨_, rfl, _, _, rfl, rfl, ?_, ?_⟩⟩
      · exact .inr (b01 _)
      · refine ⟨_, rfl, _, rfl, _, _, rfl, rfl, .inl ⟨by decide, by decide⟩, _, _, rfl, rfl, _, _, rfl, rfl, (show (0 : Int) < 2147483629 by decide), by show 3 ≤ sizeLine; decide, fun p hp => ?_⟩
        refine q p _ hp ⟨_, _, 0, rfl, ?_, Int.emod_nonneg _ (by decide), Int.emod_lt_of_pos _ (by decide), by decide, by decide⟩
        exact Int.mul_nonneg hab (b01' _)
    refine ⟨_, rfl, _, rfl, a, _, rfl, .inl hs, _, _, rfl, rfl, _, rfl, ite2 (fun e => ?_) (fun e => ?_)⟩
    · have hlt : k < cs.length := by
        have := of_decide_eq_true e
        rw [List.length_map] at this
        omega
      refine ⟨_, rfl, _, rfl, a, _, _, .int cs[k], rfl, rfl, hs, atI_nat (by rw [List.getElem?_map, List.getElem?_eq_getElem hlt]; rfl), ?_⟩
      exact rest _
    · exact rest 0
def spTake : Sp := fun vs H Q _ => ∃ (a : Addr) (o : HO) (n : Nat) (m : Int), vs = [.ref a, .int m] ∧ H a = some o ∧ BoxO o n ∧ n < 2 ^ 40 ∧ 0 < m ∧ m.natAbs < 2 ^ 8000 ∧ ∀ (r : Int) (o' : HO), 0 ≤ r → r < m → BoxO o' (n + 1) → Q (.int r) (upd H a o')
theorem ok_Ltake (T : Tx K mg) : FnOk P w K mg base CX0 1 T.a_Ltake T.f_Ltake ["_law_box_here", "_law_many"] spTake := by
  refine T.d_Ltake.F.ok sc_Ltake (fun vs H Q E h => ?_) (fun cdv A outer s H vs Q E hr h => ?_)
  · obtain ⟨a, o, n, m, rfl, _⟩ := h
    rfl
  · obtain ⟨a, o, n, m, rfl, ho, ⟨b0, b1, b2, rfl, h0, h1, h2, h3, h4⟩, hn, hm, hw, q⟩ := h
    refine ⟨_, (pss_cons
    (ps_if (pt_cmpR op_gt (pe_ix ix_list (pv 0) pe_int (fun _ _ => rfl)) pe_int (nomark _)) (pss_cons
        (ps_set (i := 2) sc_Ltake.nd rfl (.inl rfl) (pe_op op_mod (pe_ix ix_list (pv 0) pe_int (fun _ _ => rfl)) (pv 1)))
        (pss_cons
        (ps_asg (pe_op op_fdivW (pe_ix ix_list (pv 0) pe_int (fun _ _ => rfl)) (pv 1)) (pg_sub (pv 0) pe_int set_list))
        (pss_one
        (ps_ret (pv 2))))) pss_nil)
    (pss_cons
    (ps_asg (pe_op op_add (pe_ix ix_list (pv 0) pe_int (fun _ _ => rfl)) pe_int) (pg_sub (pv 0) pe_int set_list))
    (pss_cons
    (ps_set (i := 3) sc_Ltake.nd rfl (.inl rfl) (pe_op op_mod (pe_op op_mul (pe_op op_add (pe_ix ix_list (pv 0) pe_int (fun _ _ => rfl)) (pe_op op_mul pe_int (pe_ix ix_list (pv 0) pe_int (fun _ _ => rfl)))) pe_int) pe_int))
    (pss_cons
    (ps_set (i := 4) sc_Ltake.nd rfl (.inl rfl) (pe_op op_mod (pe_op op_add (pv 3) (pe_op op_mul (pe_op op_mul (pe_ix ix_list (pv 0) pe_int (fun _ _ => rfl)) (pe_ix ix_list (pv 0) pe_int (fun _ _ => rfl))) pe_int)) pe_int))
    (pss_one
    (ps_ret (pe_op op_mod (pe_op op_fdivW (pe_op op_mod (pe_op op_mul (pe_op op_mod (pe_op op_pow (pv 4) pe_int) pe_int) pe_int) pe_int) pe_int) (pv 1)))))))), ?_⟩
    refine ⟨_, rfl, _, _, _, _, rfl, rfl, SqL.of ho, atI_nat (j := 0) rfl, _, _, rfl, rfl, _, rfl, ite2 (fun e => ?_) (fun e => ?_)⟩
    · refine ⟨_, rfl, _, _, _, _, rfl, rfl, SqL.of ho, atI_nat (j := 0) rfl, _, rfl, _, _, rfl, rfl, hm, ?_⟩
      refine ⟨_, rfl, _, _, _, _, rfl, rfl, SqL.of ho, atI_nat (j := 0) rfl, _, rfl, _, _, rfl, rfl, wide_div hm hw (by decide) (by decide), _, rfl, a, _, _, 0, rfl, rfl, ho, rfl, ?_⟩
      exact ⟨_, rfl, q _ _ (Int.emod_nonneg _ (by omega)) (Int.emod_lt_of_pos _ hm) ⟨b0 / m, b1, b2, rfl, Int.ediv_nonneg h0 (by omega), h1, h2, h3, by omega⟩⟩
    · have hb2 : b2 + 1 < 2 ^ 41 := by
        have : (n : Int) < 2 ^ 40 := by exact_mod_cast hn
        omega
      refine ⟨_, rfl, _, _, _, _, rfl, rfl, SqL.of ho, atI_nat (j := 2) rfl, _, _, rfl, rfl, _, rfl, a, _, _, 2, rfl, rfl, ho, rfl, ?_⟩
      have S1 : SqL K (upd H a (.lst [.int b0, .int b1, .int (b2 + 1)])) a [.int b0, .int b1, .int (b2 + 1)] := SqL.of upd_same
      refine ⟨_, rfl, _, _, _, _, rfl, rfl, S1, atI_nat (j := 1) rfl, _, rfl, _, _, _, _, rfl, rfl, S1, atI_nat (j := 2) rfl, _, _, rfl, rfl, .inl ⟨by decide, by decide⟩, _, _, rfl, rfl, _, _, rfl, rfl, .inr ⟨by decide, by decide⟩, _, _, rfl, rfl, (show (0 : Int) < 2147483647 by decide), ?_⟩
      refine ⟨_, rfl, _, rfl, _, _, _, _, rfl, rfl, S1, atI_nat (j := 2) rfl, _, rfl, _, _, _, _, rfl, rfl, S1, atI_nat (j := 2) rfl, _, _, rfl, rfl, .inl ⟨by omega, by omega⟩, _, _, rfl, rfl, .inr ⟨by decide, by decide⟩, _, _, rfl, rfl, _, _, rfl, rfl, (show (0 : Int) < 2147483587 by decide), ?_⟩
      refine ⟨_, rfl, _, _, rfl, rfl, ⟨by decide, by decide, ?_⟩, _, _, rfl, rfl, (show (0 : Int) < 1999999973 by decide), _, _, rfl, rfl, .inr ⟨by decide, by decide⟩, _, _, rfl, rfl, (show (0 : Int) < 2147483563 by decide), _, _, rfl, rfl, wide_div (b := 7) (by decide) (by decide) (by decide) (by decide), _, rfl, _, _, rfl, rfl, hm, ?_⟩
      · generalize hx : (((b1 + 40009 * (b2 + 1)) * 48271 % 2147483647 + (b2 + 1) * (b2 + 1) * 7919) : Int) = x
        have y1 := Int.emod_nonneg x (show (2147483587 : Int) ≠ 0 by decide)
        have y2 := Int.emod_lt_of_pos x (show (0 : Int) < 2147483587 by decide)
        show (x % 2147483587).natAbs < 2 ^ 64
        omega
      · exact q _ _ (Int.emod_nonneg _ (by omega)) (Int.emod_lt_of_pos _ hm) ⟨b0, b1, b2 + 1, rfl, h0, h1, h2, by omega, by omega⟩
end

section
variable {P : Program} {w : World} {K : PySem.W.Frag} {mg : Str → Option Value} {base : Heap}
theorem cut_int {ns : List Int} {lo hi : Option Int} {i : Nat} {x : V} (h : (cutV (ns.map V.int) lo hi)[i]? = some x) : ∃ n : Int, x = .int n := by
  have hm := List.mem_of_getElem? h
  unfold cutV at hm
  have h2 := List.mem_of_mem_drop (List.mem_of_mem_take hm)
  obtain ⟨n, _, e⟩ := List.mem_map.mp h2
  exact ⟨n, e.symm⟩
theorem cut_lo {ns : List Int} {m : Nat} {hi : Option Int} {i : Nat} (h : i < (cutV (ns.map V.int) (some (m : Int)) hi).length) : m < ns.length := by
  unfold cutV at h
  rw [List.length_take, List.length_drop, HT.sIx_nat, List.length_map] at h
  omega
theorem cut_to {ns : List Int} {m : Nat} : cutV (ns.map V.int) none (some (m : Int)) = (ns.take m).map V.int := by
  unfold cutV
  rw [HT.sIx_none, HT.sIx_nat, List.drop_zero, Nat.sub_zero, List.map_take, List.length_map]
  rcases Nat.le_total m ns.length with h | h
  · rw [Nat.min_eq_left h]
  · rw [Nat.min_eq_right h, List.take_of_length_le (by simp), List.take_of_length_le (by simpa using h)]
def spFold (K : PySem.W.Frag) : Sp := fun vs H Q _ => ∃ (a : Addr) (ns : List Int) (m : Nat), vs = [.ref a, .int m] ∧ SqL K H a (ns.map V.int) ∧ ns.length ≤ 63 ∧ 0 < m ∧ m ≤ 63 ∧ ∀ H' p (cs : List Int), Same H H' → H p = none → H' p = some (.lst (cs.map V.int)) → cs.length ≤ m → Q (.ref p) H'
theorem ok_Lfolded (T : Tx K mg) : FnOk P w K mg base CX0 1 T.a_Lfolded T.f_Lfolded ["_law_script", "_law_many"] (spFold K) := by
  refine T.d_Lfolded.F.ok sc_Lfolded (fun vs H Q E h => ?_) (fun cdv A outer s H vs Q E hr h => ?_)
  · obtain ⟨a, cs, k, rfl, _⟩ := h
    rfl
  · obtain ⟨a, ns, m, rfl, hS, hl, hm, hm2, q⟩ := h
    have hm' : (0 : Int) < (m : Int) := by omega
    refine ⟨_, (pss_cons
    (ps_set (i := 2) sc_Lfolded.nd rfl (.inl rfl) (pe_callTy call_list_of (by rfl) T.z_list (by decide +kernel) (pa_cons (pe_slice sl_list (pv 0) po_none (po_some (pv 1))) pa_nil)))
    (pss_cons
    (ps_for PassesOwn.never rfl (pi_enum (by rfl) T.z_enumerate (pa_cons (pe_slice sl_list (pv 0) (po_some (pv 1)) (po_some pe_int)) pa_nil)) (pg_tup rfl (pgs_cons (pg_name (i := 3) sc_Lfolded.nd rfl (.inl rfl)) (pgs_cons (pg_name (i := 4) sc_Lfolded.nd rfl (.inl rfl)) pgs_nil))) (pss_one
        (ps_asg (pe_op op_add (pe_ix ix_list (pv 2) (pe_op op_mod (pv 3) (pv 1)) (fun _ _ => rfl)) (pe_op op_mul (pv 4) (pe_op op_add (pv 3) pe_int))) (pg_sub (pv 2) (pe_op op_mod (pv 3) (pv 1)) set_list))))
    (pss_one
    (ps_ret (pv 2))))), ?_⟩
    refine ⟨_, rfl, _, rfl, m, rfl, a, _, rfl, hS, fun u hu => ⟨u, _, rfl, .inl (SqL.of upd_same), fun c hc => ?_⟩⟩
    rw [cut_to] at *
    have s1 : Same H (upd (upd H u (.lst ((ns.take m).map V.int))) c (.lst ((ns.take m).map V.int))) := same_put (same_new hu) ((same_new hu).free hc)
    have nc : H c = none := (same_new hu).free hc
    refine ⟨_, rfl, _, rfl, _, rfl, 63, rfl, a, _, rfl, Same.seq s1 hS, fun d hd => ⟨d, _, rfl, SqL.of upd_same, ?_⟩⟩
    have ndc : d ≠ c := fun e => by
      subst e
      rw [upd_same] at hd
      cases hd
    refine for_it (walk_enum (xs := cutV (ns.map V.int) (some (m : Int)) (some 63))) (fun i σ H3 => ∃ (cs : List Int) (y3 y4 : Option V), σ = [some (.ref a), some (.int m), some (.ref c), y3, y4] ∧ Same H H3 ∧ H3 c = some (.lst (cs.map V.int)) ∧ cs.length = min m ns.length ∧ H3 d = some (.lst (cutV (ns.map V.int) (some (m : Int)) (some 63))))
      ⟨ns.take m, none, none, rfl, s1.trans (same_new hd), ?_, by simp, upd_same⟩ (fun i σ H3 _ h => ?_) (fun i x σ H3 H4 hi h hy => ?_) (fun σ H3 h => ?_)
    · rw [upd_ne ndc.symm, upd_same]
    · obtain ⟨cs, y3, y4, _, _, _, _, h5⟩ := h
      exact SqL.of h5
    · obtain ⟨cs, y3, y4, rfl, sm, hcs, hcl, hd3⟩ := h
      obtain ⟨t, x1, x2, rfl, nt, rfl, e1, e2⟩ := hy
      cases e1
      obtain ⟨v, rfl⟩ := cut_int e2
      have hmn := cut_lo hi
      have hcm : cs.length = m := by omega
      refine ⟨t, _, rfl, SqT.of upd_same, rfl, _, _, rfl, _, _, rfl, rfl, ?_⟩
      have hct : (upd H3 t (.tup [V.int (i : Nat), .int v])) c = some (.lst (cs.map V.int)) := by
        rw [upd_ne (ne_of_none hcs nt)]
        exact hcs
      have hj0 : (i : Int) % (m : Int) = ((i % m : Nat) : Int) := by simp
      have hj1 : i % m < cs.length := by rw [hcm]; exact Nat.mod_lt _ hm
      have hb : (i : Int) < 1000 := by
        have h1 := cutV_length (ns.map V.int) (some (m : Int)) (some 63)
        rw [List.length_map] at h1
        omega
      refine ⟨_, rfl, _, rfl, _, rfl, _, _, rfl, rfl, hm', c, _, _, .int cs[i % m], rfl, rfl, SqL.of hct, ?_, ?_⟩
      · rw [hj0]
        exact atI_nat (by rw [List.getElem?_map, List.getElem?_eq_getElem hj1]; rfl)
      · refine ⟨_, rfl, _, rfl, _, _, rfl, rfl, _, _, rfl, rfl, .inr ⟨by omega, by omega⟩, _, _, rfl, rfl, _, rfl, _, rfl, _, rfl, _, _, rfl, rfl, hm', c, _, _, i % m, rfl, rfl, hct, ?_, ?_⟩
        · rw [hj0, List.length_map]
          unfold ixN
          rw [if_pos (by omega), if_pos (by omega), Int.toNat_natCast]
        · refine ⟨cs.set (i % m) (cs[i % m] + v * ((i : Int) + 2)), _, _, rfl, ?_, ?_, ?_, ?_⟩
          · exact same_put (sm.trans (same_new nt)) nc
          · rw [upd_same, List.map_set]
          · rw [List.length_set]
            exact hcl
          · rw [upd_ne ndc, upd_ne (ne_of_none hd3 nt)]
            exact hd3
    · obtain ⟨cs, y3, y4, rfl, sm, hcs, hcl, _⟩ := h
      exact ⟨_, rfl, q _ _ cs sm nc hcs (by omega)⟩
end

section
variable {P : Program} {w : World} {K : PySem.W.Frag} {mg : Str → Option Value} {base : Heap}
theorem walk_zipT {a b : Addr} {xs ys : List V} {n : Nat} (hn : n = min xs.length ys.length) : Walk (RZ.ItzT K a b) n (fun H => SqT K H a xs ∧ SqT K H b ys) (YPair (fun i => xs[i]?) (fun i => ys[i]?)) := by
  subst hn
  refine ⟨fun i _ hi q => ?_, fun _ q => ⟨xs, ys, q.1, q.2, by omega⟩, fun i H v H' _ q y => ?_⟩
  · have h1 : i < xs.length := by omega
    have h2 : i < ys.length := by omega
    exact ⟨xs, ys, xs[i], ys[i], q.1, q.2, by simp [h1], by simp [h2]⟩
  · obtain ⟨T, x, z, h1, h2, h3, h4, h5⟩ := y
    exact ⟨T, x, z, h1, h2, h3, h4 xs q.1, h5 ys q.2⟩
theorem rd_isi {H : Hp} {x : V} {tn c : String} {b : Bool} {Q : VK} (ty : TyX K H x (.type tn)) (h : kitB tn c = some b) (q : Q (.bl b) H) : rIsi K [x, .ty c] H Q := ⟨x, .ty c, .type tn, .type c, b, rfl, .ty c, ty, kit_ty h, q⟩
theorem kit2 {tn c1 c2 : String} {b1 b2 : Bool} (h1 : kitB tn c1 = some b1) (h2 : kitB tn c2 = some b2) : PySem.W.kitAny K (.type tn) [.type c1, .type c2] = some (b1 || b2) :=
  kitAny_cons (kit_ty h1) (fun e => by
    subst e
    exact kitAny_cons (kit_ty h2) (fun e => by subst e; exact kitAny_nil) (fun e => by subst e; rfl)) (fun e => by subst e; rfl)
theorem rd_isiT {H : Hp} {x : V} {tn c1 c2 : String} {b1 b2 : Bool} {tp : Addr} {Q : VK} (ht : H tp = some (.tup [.ty c1, .ty c2])) (ty : TyX K H x (.type tn)) (h1 : kitB tn c1 = some b1) (h2 : kitB tn c2 = some b2) (q : Q (.bl (b1 || b2)) H) : rIsiT K [x, .ref tp] H Q :=
  ⟨x, tp, _, .type tn, [.type c1, .type c2], _, rfl, ht, .cons (.ty c1) (.cons (.ty c2) .nil), ty, kit2 h1 h2, q⟩
/-- the same data, kind by kind, less than n deep -/
def Dt (H : Hp) : Nat → V → V → Prop
  | 0, _, _ => False
  | n + 1, x, y => (x = y ∧ (x = .non ∨ (∃ b, x = .bl b) ∨ (∃ i, x = .int i) ∨ (∃ z, x = .str z))) ∨
    ∃ a b xs ys, x = .ref a ∧ y = .ref b ∧ ((H a = some (.lst xs) ∧ H b = some (.lst ys)) ∨ (H a = some (.tup xs) ∧ H b = some (.tup ys))) ∧ xs.length = ys.length ∧ xs.length < 100000 ∧ ∀ (i : Nat) (u v : V), xs[i]? = some u → ys[i]? = some v → Dt H n u v
theorem Dt.mono {H H' : Hp} (s : Same H H') : ∀ {n : Nat} {x y : V}, Dt H n x y → Dt H' n x y
  | 0, _, _, h => h
  | n + 1, x, y, h => by
    rcases h with h | ⟨a, b, xs, ys, e1, e2, h, hl, hz, hd⟩
    · exact .inl h
    · refine .inr ⟨a, b, xs, ys, e1, e2, ?_, hl, hz, fun i u v h1 h2 => (hd i u v h1 h2).mono s⟩
      rcases h with ⟨h1, h2⟩ | ⟨h1, h2⟩
      · exact .inl ⟨s _ _ h1, s _ _ h2⟩
      · exact .inr ⟨s _ _ h1, s _ _ h2⟩
theorem Dt.int {H : Hp} {n : Nat} (i : Int) : Dt H (n + 1) (.int i) (.int i) := .inl ⟨rfl, .inr (.inr (.inl ⟨i, rfl⟩))⟩
theorem Dt.bl {H : Hp} {n : Nat} (b : Bool) : Dt H (n + 1) (.bl b) (.bl b) := .inl ⟨rfl, .inr (.inl ⟨b, rfl⟩)⟩
theorem Dt.str {H : Hp} {n : Nat} (z : Str) : Dt H (n + 1) (.str z) (.str z) := .inl ⟨rfl, .inr (.inr (.inr ⟨z, rfl⟩))⟩
theorem Dt.non {H : Hp} {n : Nat} : Dt H (n + 1) .non .non := .inl ⟨rfl, .inl rfl⟩
def spSame (n : Nat) : Sp := fun vs H Q _ => ∃ x y : V, vs = [x, y] ∧ Dt H n x y ∧ ∀ H', Same H H' → Q (.bl true) H'
theorem ok_Lsame (T : Tx K mg) : ∀ n : Nat, FnOk P w K mg base CX0 (n + 1) T.a_Lsame T.f_Lsame ["_law_found", "_law_due"] (spSame n)
  | 0 => T.d_Lsame.F.ok sc_Lsame (fun vs H Q E h => h.elim fun _ h => h.elim fun _ h => h.2.1.elim) (fun cdv A outer s H vs Q E hr h => h.elim fun _ h => h.elim fun _ h => h.2.1.elim)
  | n + 1 => by
    have G_Lsame : FnOk P w K mg base CX0 (n + 1) T.a_Lsame T.f_Lsame ["_law_found", "_law_due"] (spSame n) := ok_Lsame T n
    refine T.d_Lsame.F.ok sc_Lsame (fun vs H Q E h => ?_) (fun cdv A outer s H vs Q E hr h => ?_)
    · obtain ⟨x, y, rfl, _⟩ := h
      rfl
    · obtain ⟨x, y, rfl, hd, q⟩ := h
      refine ⟨_, (pss_cons
    (ps_if (pt_val (pe_callB call_isiT (by rfl) T.z_isinstance (by decide +kernel) (pa_cons (pv 1) (pa_cons (pe_tup (pa_cons (pe_bltn (v := .ty "list") (by rfl) T.z_list (by decide +kernel) rfl) (pa_cons (pe_bltn (v := .ty "tuple") (by rfl) T.z_tuple (by decide +kernel) rfl) pa_nil))) pa_nil)))) (pss_cons
        (ps_if (PW.pt (pw_or (pt_cmpR op_ne (pe_callB call_isi (by rfl) T.z_isinstance (by decide +kernel) (pa_cons (pv 0) (pa_cons (pe_bltn (v := .ty "list") (by rfl) T.z_list (by decide +kernel) rfl) pa_nil))) (pe_callB call_isi (by rfl) T.z_isinstance (by decide +kernel) (pa_cons (pv 1) (pa_cons (pe_bltn (v := .ty "list") (by rfl) T.z_list (by decide +kernel) rfl) pa_nil))) (nomark _)) (pw_or1 (pt_cmpR op_ne (pe_callB call_isi (by rfl) T.z_isinstance (by decide +kernel) (pa_cons (pv 0) (pa_cons (pe_bltn (v := .ty "tuple") (by rfl) T.z_tuple (by decide +kernel) rfl) pa_nil))) (pe_callB call_isi (by rfl) T.z_isinstance (by decide +kernel) (pa_cons (pv 1) (pa_cons (pe_bltn (v := .ty "tuple") (by rfl) T.z_tuple (by decide +kernel) rfl) pa_nil))) (nomark _))))) (pss_one
            (ps_ret pe_bl)) pss_nil)
        (pss_one
        (ps_ret (pe_and (pe_cmpR op_eq (pe_callB call_len_seq (by rfl) T.z_len (by decide +kernel) (pa_cons (pv 0) pa_nil)) (pe_callB call_len_seq (by rfl) T.z_len (by decide +kernel) (pa_cons (pv 1) pa_nil)) (nomark _)) (pe_one (pe_callB (cr_all rfl) (by rfl) T.z_all (by decide +kernel) (pa_cons (pe_lc (own := [("_law_one", 2), ("_law_other", 3)]) (g := (gTup K 2 (gCons (gName 2) (gCons (gName 3) gNil)))) (tt := tYes) rfl sc_Lsame.nd (RZ.pi_zipA (by rfl) T.z_zip (pa_cons (pv 0) (pa_cons (pv 1) pa_nil))) (blkOk_by (own := [("_law_one", 2), ("_law_other", 3)]) (N := ["_law_found", "_law_due", "_law_one", "_law_other"]) (sc := defScope s_Lsame) (by decide +kernel)) (fun _ _ _ _ _ => (pg_tup rfl (pgs_cons (pg_name (i := 2) sc_Lsame.nd rfl (.inl rfl) (.inr rfl)) (pgs_cons (pg_name (i := 3) sc_Lsame.nd rfl (.inl rfl) (.inr rfl)) pgs_nil)))) (fun _ _ _ _ _ => pts_nil) (fun _ _ _ _ _ => (pe_call G_Lsame hr (by rfl) T.d_Lsame.g T.d_Lsame.F.kp T.d_Lsame.b .nil pass0 (pa_cons (pv 2) (pa_cons (pv 3) pa_nil))))) pa_nil))))))) pss_nil)
    (pss_cons
    (ps_if (pt_cmpR op_isN (pv 1) pe_non (nomark _)) (pss_one
        (ps_ret (pe_cmpR op_isN (pv 0) pe_non (nomark _)))) pss_nil)
    (pss_cons
    (ps_if (pt_val (pe_callB call_isiT (by rfl) T.z_isinstance (by decide +kernel) (pa_cons (pv 1) (pa_cons (pe_tup (pa_cons (pe_bltn (v := .ty "str") (by rfl) T.z_str (by decide +kernel) rfl) (pa_cons (pe_bltn (v := .ty "bool") (by rfl) T.z_bool (by decide +kernel) rfl) pa_nil))) pa_nil)))) (pss_one
        (ps_ret (pe_and (pe_cmpR op_eq (pe_callB call_isi (by rfl) T.z_isinstance (by decide +kernel) (pa_cons (pv 0) (pa_cons (pe_bltn (v := .ty "str") (by rfl) T.z_str (by decide +kernel) rfl) pa_nil))) (pe_callB call_isi (by rfl) T.z_isinstance (by decide +kernel) (pa_cons (pv 1) (pa_cons (pe_bltn (v := .ty "str") (by rfl) T.z_str (by decide +kernel) rfl) pa_nil))) (nomark _)) (pe_and (pe_callB call_isiT (by rfl) T.z_isinstance (by decide +kernel) (pa_cons (pv 0) (pa_cons (pe_tup (pa_cons (pe_bltn (v := .ty "str") (by rfl) T.z_str (by decide +kernel) rfl) (pa_cons (pe_bltn (v := .ty "bool") (by rfl) T.z_bool (by decide +kernel) rfl) pa_nil))) pa_nil))) (pe_one (pe_cmpR op_eq (pv 0) (pv 1) (nomark _))))))) pss_nil)
    (pss_one
    (ps_ret (pe_and (pe_callB call_isi (by rfl) T.z_isinstance (by decide +kernel) (pa_cons (pv 0) (pa_cons (pe_bltn (v := .ty "int") (by rfl) T.z_int (by decide +kernel) rfl) pa_nil))) (pe_and (pe_not (pe_callB call_isi (by rfl) T.z_isinstance (by decide +kernel) (pa_cons (pv 0) (pa_cons (pe_bltn (v := .ty "bool") (by rfl) T.z_bool (by decide +kernel) rfl) pa_nil)))) (pe_one (pe_cmpR op_eq (pv 0) (pv 1) (nomark _)))))))))), ?_⟩
      rcases hd with ⟨rfl, hk⟩ | ⟨a, b, xs, ys, rfl, rfl, hk, hl, hz, hd⟩
      · rcases hk with rfl | ⟨b, rfl⟩ | ⟨i, rfl⟩ | ⟨z, rfl⟩
        · refine ⟨_, rfl, by show 2 ≤ sizeLine; decide, fun t ht => ⟨_, _, _, _, _, _, rfl, upd_same, .cons (.ty _) (.cons (.ty _) .nil), (.base .non), kit2 (b1 := false) (b2 := false) (by decide +kernel) (by decide +kernel), _, rfl, iteF ?_⟩⟩
          refine ⟨_, rfl, rfl, _, rfl, itePos (by decide) ?_⟩
          refine ⟨_, rfl, rfl, ?_⟩
          exact q _ (same_new ht)
        · refine ⟨_, rfl, by show 2 ≤ sizeLine; decide, fun t ht => ⟨_, _, _, _, _, _, rfl, upd_same, .cons (.ty _) (.cons (.ty _) .nil), (.base (.bl b)), kit2 (b1 := false) (b2 := false) (by decide +kernel) (by decide +kernel), _, rfl, iteF ?_⟩⟩
          refine ⟨_, rfl, rfl, _, rfl, iteNeg (by simp) ?_⟩
          refine ⟨_, rfl, by show 2 ≤ sizeLine; decide, fun t2 ht2 => ⟨_, _, _, _, _, _, rfl, upd_same, .cons (.ty _) (.cons (.ty _) .nil), (.base (.bl b)), kit2 (b1 := false) (b2 := true) (by decide +kernel) (by decide +kernel), _, rfl, iteT ?_⟩⟩
          refine ⟨_, rfl, ⟨_, _, _, _, _, rfl, .ty _, (.base (.bl b)), kit_ty (r := false) (by decide +kernel), _, rfl, ⟨_, _, _, _, _, rfl, .ty _, (.base (.bl b)), kit_ty (r := false) (by decide +kernel), rfl, _, rfl, iteT ?_⟩⟩⟩
          refine ⟨_, rfl, by show 2 ≤ sizeLine; decide, fun t3 ht3 => ⟨_, _, _, _, _, _, rfl, upd_same, .cons (.ty _) (.cons (.ty _) .nil), (.base (.bl b)), kit2 (b1 := false) (b2 := true) (by decide +kernel) (by decide +kernel), _, rfl, iteT ?_⟩⟩
          refine ⟨_, rfl, _, rfl, by cases b <;> rfl, ?_⟩
          exact bl_true (decide_eq_true rfl) <| q _ (((same_new ht).trans (same_new ht2)).trans (same_new ht3))
        · refine ⟨_, rfl, by show 2 ≤ sizeLine; decide, fun t ht => ⟨_, _, _, _, _, _, rfl, upd_same, .cons (.ty _) (.cons (.ty _) .nil), (.base (.int i)), kit2 (b1 := false) (b2 := false) (by decide +kernel) (by decide +kernel), _, rfl, iteF ?_⟩⟩
          refine ⟨_, rfl, rfl, _, rfl, iteNeg (by simp) ?_⟩
          refine ⟨_, rfl, by show 2 ≤ sizeLine; decide, fun t2 ht2 => ⟨_, _, _, _, _, _, rfl, upd_same, .cons (.ty _) (.cons (.ty _) .nil), (.base (.int i)), kit2 (b1 := false) (b2 := false) (by decide +kernel) (by decide +kernel), _, rfl, iteF ?_⟩⟩
          refine ⟨_, rfl, ⟨_, _, _, _, _, rfl, .ty _, (.base (.int i)), kit_ty (r := true) (by decide +kernel), _, rfl, iteT ?_⟩⟩
          refine ⟨_, rfl, ⟨_, _, _, _, _, rfl, .ty _, (.base (.int i)), kit_ty (r := false) (by decide +kernel), _, rfl, _, rfl, iteT ?_⟩⟩
          refine ⟨_, rfl, _, rfl, rfl, ?_⟩
          exact bl_true (decide_eq_true rfl) <| q _ ((same_new ht).trans (same_new ht2))
        · refine ⟨_, rfl, by show 2 ≤ sizeLine; decide, fun t ht => ⟨_, _, _, _, _, _, rfl, upd_same, .cons (.ty _) (.cons (.ty _) .nil), (.base (.str z)), kit2 (b1 := false) (b2 := false) (by decide +kernel) (by decide +kernel), _, rfl, iteF ?_⟩⟩
          refine ⟨_, rfl, rfl, _, rfl, iteNeg (by simp) ?_⟩
          refine ⟨_, rfl, by show 2 ≤ sizeLine; decide, fun t2 ht2 => ⟨_, _, _, _, _, _, rfl, upd_same, .cons (.ty _) (.cons (.ty _) .nil), (.base (.str z)), kit2 (b1 := true) (b2 := false) (by decide +kernel) (by decide +kernel), _, rfl, iteT ?_⟩⟩
          refine ⟨_, rfl, ⟨_, _, _, _, _, rfl, .ty _, (.base (.str z)), kit_ty (r := true) (by decide +kernel), _, rfl, ⟨_, _, _, _, _, rfl, .ty _, (.base (.str z)), kit_ty (r := true) (by decide +kernel), rfl, _, rfl, iteT ?_⟩⟩⟩
          refine ⟨_, rfl, by show 2 ≤ sizeLine; decide, fun t3 ht3 => ⟨_, _, _, _, _, _, rfl, upd_same, .cons (.ty _) (.cons (.ty _) .nil), (.base (.str z)), kit2 (b1 := true) (b2 := false) (by decide +kernel) (by decide +kernel), _, rfl, iteT ?_⟩⟩
          refine ⟨_, rfl, _, rfl, rfl, ?_⟩
          exact bl_true (decide_eq_true rfl) <| q _ (((same_new ht).trans (same_new ht2)).trans (same_new ht3))
      · have elen : decide (V.int ((xs.length : Nat) : Int) = V.int ((ys.length : Nat) : Int)) = true := decide_eq_true (by rw [hl])
        rcases hk with ⟨ha, hb⟩ | ⟨ha, hb⟩
        · refine ⟨_, rfl, by show 2 ≤ sizeLine; decide, fun t ht => ⟨_, _, _, _, _, _, rfl, upd_same, .cons (.ty _) (.cons (.ty _) .nil), (.base (.lst (same_new ht _ _ hb))), kit2 (b1 := true) (b2 := false) (by decide +kernel) (by decide +kernel), _, rfl, iteT ?_⟩⟩
          have s1 : Same H (upd H t (.tup [.ty "list", .ty "tuple"])) := same_new ht
          generalize upd H t (.tup [.ty "list", .ty "tuple"]) = H1 at s1
          refine ⟨_, rfl, ⟨_, _, _, _, _, rfl, .ty _, (.base (.lst (s1 _ _ ha))), kit_ty (r := true) (by decide +kernel), _, rfl, ⟨_, _, _, _, _, rfl, .ty _, (.base (.lst (s1 _ _ hb))), kit_ty (r := true) (by decide +kernel), rfl, _, rfl, iteNS rfl ?_⟩⟩⟩
          refine ⟨_, rfl, ⟨_, _, _, _, _, rfl, .ty _, (.base (.lst (s1 _ _ ha))), kit_ty (r := false) (by decide +kernel), _, rfl, ⟨_, _, _, _, _, rfl, .ty _, (.base (.lst (s1 _ _ hb))), kit_ty (r := false) (by decide +kernel), rfl, _, rfl, iteNS rfl ?_⟩⟩⟩
          refine ⟨_, rfl, a, xs, rfl, .inl (SqL.of (s1 _ _ ha)), _, rfl, b, ys, rfl, .inl (SqL.of (s1 _ _ hb)), rfl, _, rfl, itePos elen ?_⟩
          refine ⟨_, rfl, _, rfl, a, b, xs, ys, rfl, .inl ⟨SqL.of (s1 _ _ ha), SqL.of (s1 _ _ hb), fun D hD => ?_⟩⟩
          refine lc_it (walk_zip (xs := xs) (ys := ys) (n := xs.length) (by omega)) (fun i H3 => Same H H3 ∧ H3 D = some (.lst ((List.replicate i true).map V.bl))) ⟨s1.trans (same_new hD), upd_same⟩ (fun i H3 _ h => ⟨SqL.of (h.1 _ _ ha), SqL.of (h.1 _ _ hb)⟩) (fun i x H3 H4 hi h hy => ?_) (fun H3 h => ?_)
          · obtain ⟨t, x1, x2, rfl, nt, rfl, e1, e2⟩ := hy
            refine ⟨t, _, rfl, SqT.of upd_same, rfl, _, _, rfl, _, _, rfl, rfl, rfl, ?_⟩
            have s2 := h.1.trans (same_new (o := .tup [x1, x2]) nt)
            refine ⟨_, rfl, _, rfl, x1, x2, rfl, (hd i x1 x2 e1 e2).mono s2, fun H5 s3 => ?_⟩
            refine ⟨_, s3 _ _ (same_new nt _ _ h.2), ?_, ?_⟩
            · rw [List.length_map, List.length_replicate]
              exact Nat.lt_trans hi (Nat.lt_of_lt_of_le hz (by decide))
            · refine ⟨same_put (s2.trans s3) (s1.free hD), ?_⟩
              rw [upd_same, List.replicate_succ', List.map_append]
              rfl
          · refine ⟨D, List.replicate xs.length true, rfl, SqL.of h.2, ?_⟩
            exact bl_true (by simp) <| q _ h.1
        · refine ⟨_, rfl, by show 2 ≤ sizeLine; decide, fun t ht => ⟨_, _, _, _, _, _, rfl, upd_same, .cons (.ty _) (.cons (.ty _) .nil), (.base (.tup (same_new ht _ _ hb))), kit2 (b1 := false) (b2 := true) (by decide +kernel) (by decide +kernel), _, rfl, iteT ?_⟩⟩
          have s1 : Same H (upd H t (.tup [.ty "list", .ty "tuple"])) := same_new ht
          generalize upd H t (.tup [.ty "list", .ty "tuple"]) = H1 at s1
          refine ⟨_, rfl, ⟨_, _, _, _, _, rfl, .ty _, (.base (.tup (s1 _ _ ha))), kit_ty (r := false) (by decide +kernel), _, rfl, ⟨_, _, _, _, _, rfl, .ty _, (.base (.tup (s1 _ _ hb))), kit_ty (r := false) (by decide +kernel), rfl, _, rfl, iteNS rfl ?_⟩⟩⟩
          refine ⟨_, rfl, ⟨_, _, _, _, _, rfl, .ty _, (.base (.tup (s1 _ _ ha))), kit_ty (r := true) (by decide +kernel), _, rfl, ⟨_, _, _, _, _, rfl, .ty _, (.base (.tup (s1 _ _ hb))), kit_ty (r := true) (by decide +kernel), rfl, _, rfl, iteNS rfl ?_⟩⟩⟩
          refine ⟨_, rfl, a, xs, rfl, .inr (SqT.of (s1 _ _ ha)), _, rfl, b, ys, rfl, .inr (SqT.of (s1 _ _ hb)), rfl, _, rfl, itePos elen ?_⟩
          refine ⟨_, rfl, _, rfl, a, b, xs, ys, rfl, .inr ⟨SqT.of (s1 _ _ ha), SqT.of (s1 _ _ hb), fun D hD => ?_⟩⟩
          refine lc_it (walk_zipT (xs := xs) (ys := ys) (n := xs.length) (by omega)) (fun i H3 => Same H H3 ∧ H3 D = some (.lst ((List.replicate i true).map V.bl))) ⟨s1.trans (same_new hD), upd_same⟩ (fun i H3 _ h => ⟨SqT.of (h.1 _ _ ha), SqT.of (h.1 _ _ hb)⟩) (fun i x H3 H4 hi h hy => ?_) (fun H3 h => ?_)
          · obtain ⟨t, x1, x2, rfl, nt, rfl, e1, e2⟩ := hy
            refine ⟨t, _, rfl, SqT.of upd_same, rfl, _, _, rfl, _, _, rfl, rfl, rfl, ?_⟩
            have s2 := h.1.trans (same_new (o := .tup [x1, x2]) nt)
            refine ⟨_, rfl, _, rfl, x1, x2, rfl, (hd i x1 x2 e1 e2).mono s2, fun H5 s3 => ?_⟩
            refine ⟨_, s3 _ _ (same_new nt _ _ h.2), ?_, ?_⟩
            · rw [List.length_map, List.length_replicate]
              exact Nat.lt_trans hi (Nat.lt_of_lt_of_le hz (by decide))
            · refine ⟨same_put (s2.trans s3) (s1.free hD), ?_⟩
              rw [upd_same, List.replicate_succ', List.map_append]
              rfl
          · refine ⟨D, List.replicate xs.length true, rfl, SqL.of h.2, ?_⟩
            exact bl_true (by simp) <| q _ h.1
end

section
variable {P : Program} {w : World} {K : PySem.W.Frag} {mg : Str → Option Value} {base : Heap}
theorem gcd_emod (x y : Int) : Int.gcd y (x % y) = Int.gcd x y := by
  rw [Int.gcd_comm x y]
  have e : x % y = x - y * (x / y) := Int.emod_def x y
  rw [e]
  exact Int.gcd_sub_mul_right_right y x (x / y) |> fun h => by simpa [Int.mul_comm] using h
theorem ok_Llowest (T : Tx K mg) : FnOk P w K mg base CX0 1 T.a_Llowest T.f_Llowest ["_law_n", "_law_d"] spFrac := by
  refine T.d_Llowest.F.ok sc_Llowest (fun vs H Q E h => ?_) (fun cdv A outer s H vs Q E hr h => ?_)
  · obtain ⟨a, b, rfl, _⟩ := h
    rfl
  · obtain ⟨n, d, rfl, hd, hw, q⟩ := h
    refine ⟨_, (pss_cons
    (ps_par (i := 2) (j := 3) (by rfl) sc_Llowest.nd rfl rfl (by decide) rfl rfl (pa_cons (pe_callB call_abs (by rfl) T.z_abs (by decide +kernel) (pa_cons (pv 0) pa_nil)) (pa_cons (pe_callB call_abs (by rfl) T.z_abs (by decide +kernel) (pa_cons (pv 1) pa_nil)) pa_nil)) (by rfl))
    (pss_cons
    (ps_while PassesOwn.never (pt_cmpR op_gt (pv 3) pe_int (nomark _)) (pss_one
        (ps_par (i := 2) (j := 3) (by rfl) sc_Llowest.nd rfl rfl (by decide) rfl rfl (pa_cons (pv 3) (pa_cons (pe_op op_mod (pv 2) (pv 3)) pa_nil)) (by rfl))))
    (pss_one
    (ps_ret (pe_ifExp (pt_cmpR op_gt (pv 1) pe_int (nomark _)) (pe_tup (pa_cons (pe_op op_fdivW (pv 0) (pv 2)) (pa_cons (pe_op op_fdivW (pv 1) (pv 2)) pa_nil))) (pe_tup (pa_cons (pe_op op_sub pe_int (pe_op op_fdivW (pv 0) (pv 2))) (pa_cons (pe_op op_sub pe_int (pe_op op_fdivW (pv 1) (pv 2))) pa_nil)))))))), ?_⟩
    have g0 := gcd_pos (n := n) hd
    have gw : Int.gcd n d < 2 ^ 8000 := Nat.lt_of_le_of_lt (gcd_le hd) hw
    refine ⟨_, rfl, _, rfl, _, rfl, _, rfl, _, _, rfl, ?_⟩
    refine ⟨fun m σ H' => ∃ x y : Int, σ = [some (.int n), some (.int d), some (.int x), some (.int y)] ∧ m = y.natAbs ∧ 0 ≤ x ∧ 0 ≤ y ∧ Int.gcd x y = Int.gcd n d ∧ H' = H, ⟨_, _, _, rfl, rfl, ?_, ?_, ?_, rfl⟩, fun m σ H' hW => ?_⟩
    · split <;> omega
    · split <;> omega
    · split <;> split <;> simp
    · obtain ⟨x, y, rfl, rfl, hx, hy, hg, rfl⟩ := hW
      refine ⟨_, rfl, _, _, rfl, rfl, _, rfl, ite2 (fun e => ?_) (fun e => ?_)⟩
      · have hy : 0 < y := of_decide_eq_true e
        refine ⟨_, fun σ' H' n => n, _, rfl, _, rfl, _, rfl, _, _, rfl, rfl, hy, _, _, rfl, ?_⟩
        have h1 := Int.emod_nonneg x (show y ≠ 0 by omega)
        have h2 := Int.emod_lt_of_pos x hy
        exact ⟨_, by omega, _, _, rfl, rfl, by omega, h1, (gcd_emod x y).trans hg, rfl⟩
      · have hy : y = 0 := by
          have : ¬ 0 < y := fun z => e (decide_eq_true z)
          omega
        subst hy
        have hxg : x = ((Int.gcd n d : Nat) : Int) := by
          rw [← hg, Int.gcd_zero_right]
          omega
        have hc : CDivW n x ∧ CDivW d x := by
          have hx0 : 0 < x := by omega
          have hxw : x.natAbs < 2 ^ 8000 := by
            rw [hxg]
            exact gw
          exact ⟨wide_div hx0 hxw (by decide) (by decide), wide_div hx0 hxw (by decide) (by decide)⟩
        refine ⟨_, rfl, _, _, rfl, rfl, _, rfl, ite2 (fun e2 => ?_) (fun e2 => ?_)⟩
        · have hd0 : 0 < d := of_decide_eq_true e2
          refine ⟨_, rfl, _, rfl, _, _, rfl, rfl, hc.1, _, rfl, _, rfl, _, _, rfl, rfl, hc.2, by show 2 ≤ sizeLine; decide, fun p hp => ?_⟩
          have := q p hp
          unfold lowN lowD at this
          rw [if_neg (by omega), if_neg (by omega), ← hxg] at this
          exact this
        · have hd0 : ¬ 0 < d := fun z => e2 (decide_eq_true z)
          refine ⟨_, rfl, _, rfl, _, _, rfl, rfl, hc.1, _, _, rfl, rfl, _, rfl, _, rfl, _, _, rfl, rfl, hc.2, _, _, rfl, rfl, by show 2 ≤ sizeLine; decide, fun p hp => ?_⟩
          have := q p hp
          unfold lowN lowD at this
          rw [if_pos (by omega), if_pos (by omega), ← hxg, ← Int.zero_sub, ← Int.zero_sub] at this
          exact this
theorem at_ints {xs : List Int} {r : Int} (h0 : 0 ≤ r) (h1 : r < xs.length) : ∃ v, v ∈ xs ∧ atI (xs.map V.int) r = some (.int v) := by
  obtain ⟨j, rfl⟩ := Int.eq_ofNat_of_zero_le h0
  have hj : j < xs.length := by omega
  exact ⟨xs[j], List.getElem_mem hj, atI_nat (by rw [List.getElem?_map, List.getElem?_eq_getElem hj]; rfl)⟩
/-- all but a stays -/
def But (a : Addr) (H H' : Hp) : Prop := ∀ b o, H b = some o → b ≠ a → H' b = some o
theorem But.trans {a : Addr} {H H1 H2 : Hp} (h : But a H H1) (h' : But a H1 H2) : But a H H2 := fun b o e n => h' b o (h b o e n) n
theorem But.put {a : Addr} {H : Hp} {o : HO} : But a H (upd H a o) := fun b x e n => by
  rw [upd_ne n]
  exact e
theorem But.of {a : Addr} {H H' : Hp} (s : Same H H') : But a H H' := fun b o e _ => s b o e
def Sm (x : Int) : Prop := x.natAbs < 2 ^ 300
def spNum : Sp := fun vs H Q _ => ∃ (a : Addr) (o : HO) (n : Nat), vs = [.ref a] ∧ H a = some o ∧ BoxO o n ∧ n < 2 ^ 30 ∧ ∀ (r : Int) (o' : HO) (H' : Hp), Sm r → But a H H' → H' a = some o' → BoxO o' (n + 3) → Q (.int r) H'
theorem ok_Lnumber (T : Tx K mg) : FnOk P w K mg base CX0 2 T.a_Lnumber T.f_Lnumber ["_law_box_here"] spNum := by
  have G_Ltake : FnOk P w K mg base CX0 1 T.a_Ltake T.f_Ltake ["_law_box_here", "_law_many"] spTake := ok_Ltake T
  refine T.d_Lnumber.F.ok sc_Lnumber (fun vs H Q E h => ?_) (fun cdv A outer s H vs Q E hr h => ?_)
  · obtain ⟨a, o, n, rfl, _⟩ := h
    rfl
  · obtain ⟨a, o, n, rfl, ho, hB, hn, q⟩ := h
    refine ⟨_, (pss_cons
    (ps_par (i := 1) (j := 2) (by rfl) sc_Lnumber.nd rfl rfl (by decide) rfl rfl (pa_cons (pe_call G_Ltake (hr.mono (by decide)) (by rfl) T.d_Ltake.g T.d_Ltake.F.kp T.d_Ltake.b .nil pass0 (pa_cons (pv 0) (pa_cons pe_int pa_nil))) (pa_cons (pe_ix ix_list (pe_lst (pa_cons pe_int (pa_cons pe_int (pa_cons (pe_op op_pow pe_int pe_int) (pa_cons (pe_op op_pow pe_int pe_int) pa_nil))))) (pe_call G_Ltake (hr.mono (by decide)) (by rfl) T.d_Ltake.g T.d_Ltake.F.kp T.d_Ltake.b .nil pass0 (pa_cons (pv 0) (pa_cons pe_int pa_nil))) (fun _ _ => rfl)) pa_nil)) (by rfl))
    (pss_cons
    (ps_set (i := 3) sc_Lnumber.nd rfl (.inl rfl) (pe_op op_add pe_int (pe_call G_Ltake (hr.mono (by decide)) (by rfl) T.d_Ltake.g T.d_Ltake.F.kp T.d_Ltake.b .nil pass0 (pa_cons (pv 0) (pa_cons (pv 2) pa_nil)))))
    (pss_one
    (ps_ret (pe_ix ix_list (pe_lst (pa_cons (pv 3) (pa_cons (pe_op op_sub pe_int (pv 3)) (pa_cons (pe_op op_mul (pv 3) pe_int) (pa_cons (pv 3) (pa_cons pe_int (pa_cons (pe_op op_mulW (pv 3) (pv 3)) pa_nil))))))) (pv 1) (fun _ _ => rfl)))))), ?_⟩
    refine ⟨_, rfl, a, o, n, 6, rfl, ho, hB, by omega, by decide, by decide, fun r1 o1 hr1 hr1' hB1 => ?_⟩
    refine ⟨_, _, rfl, rfl, ⟨by decide, by decide, by decide⟩, _, _, rfl, rfl, ⟨by decide, by decide, by decide⟩, by show 4 ≤ sizeLine; decide, fun p hp => ?_⟩
    have npa : a ≠ p := fun e => by
      subst e
      rw [upd_same] at hp
      cases hp
    refine ⟨_, rfl, a, o1, n + 1, 4, rfl, ?_, hB1, by omega, by decide, by decide, fun r2 o2 hr2 hr2' hB2 => ?_⟩
    · rw [upd_ne npa, upd_same]
    · obtain ⟨m, hm, em⟩ := at_ints (xs := [7, 100, 10 ^ (9 : Nat), 10 ^ (40 : Nat)]) hr2 (by exact hr2')
      have hm0 : 0 < m ∧ m ≤ 10 ^ 40 := by
        simp only [List.mem_cons, List.not_mem_nil, or_false] at hm
        rcases hm with rfl | rfl | rfl | rfl <;> exact ⟨by decide, by decide⟩
      refine ⟨p, _, _, _, rfl, rfl, ?_, em, _, _, rfl, ?_⟩
      · exact SqL.of (by rw [upd_ne npa.symm, upd_same]; rfl)
      · have hmw : m.natAbs < 2 ^ 8000 := by
          have : m.natAbs ≤ 10 ^ 40 := by omega
          exact Nat.lt_of_le_of_lt this (by decide)
        refine ⟨_, rfl, _, rfl, a, o2, n + 2, m, rfl, upd_same, hB2, by omega, hm0.1, hmw, fun r3 o3 hr3 hr3' hB3 => ?_⟩
        refine ⟨_, _, rfl, rfl, ?_⟩
        have hz : (1 + r3).natAbs < 2 ^ 140 := by
          have : (1 + r3).natAbs ≤ 10 ^ 40 + 1 := by omega
          exact Nat.lt_of_le_of_lt this (by decide)
        refine ⟨_, rfl, _, rfl, _, _, rfl, rfl, _, rfl, _, _, rfl, rfl, .inr ⟨by decide, by decide⟩, _, rfl, _, rfl, _, rfl, _, _, rfl, rfl, wide_mul hz hz (by decide) (by decide) (by decide), by show 6 ≤ sizeLine; decide, fun p2 hp2 => ?_⟩
        have npa2 : a ≠ p2 := fun e => by
          subst e
          rw [upd_same] at hp2
          cases hp2
        obtain ⟨v, hv, ev⟩ := at_ints (xs := [1 + r3, 0 - (1 + r3), (1 + r3) * 30030, 1 + r3, 0, (1 + r3) * (1 + r3)]) hr1 (by exact hr1')
        refine ⟨_, rfl, p2, _, _, _, rfl, rfl, SqL.of upd_same, ev, ?_⟩
        refine q v o3 _ ?_ ?_ ?_ hB3
        · have h2 := wide_lt hz hz
          have b1 : (2 : Nat) ^ 140 ≤ 2 ^ 300 := by decide
          have b2 : (2 : Nat) ^ (140 + 140) ≤ 2 ^ 300 := by decide
          have b3 : (2 : Nat) ^ 140 * 30030 ≤ 2 ^ 300 := by decide
          have h3 : ((1 + r3) * 30030).natAbs < 2 ^ 140 * 30030 := by
            rw [Int.natAbs_mul]
            exact Nat.mul_lt_mul_of_pos_right hz (by decide)
          simp only [List.mem_cons, List.not_mem_nil, or_false] at hv
          unfold Sm
          rcases hv with rfl | rfl | rfl | rfl | rfl | rfl <;> first | omega | decide
        · refine But.trans (But.put (o := o1)) (But.trans (But.of (same_new hp)) (But.trans (But.put (o := o2)) (But.trans (But.put (o := o3)) (But.of (same_new hp2)))))
        · rw [upd_ne npa2, upd_same]
end
end K02

set_option exponentiation.threshold 10000
namespace K02
open PySem PySem.Spec PyProof.Rows L2
/-! ### mathematics of fractions -/
theorem low_exact (n d : Int) (hd : d ≠ 0) : ∃ k l g : Int, 0 < g ∧ n = g * k ∧ d = g * l ∧ ((Int.gcd n d : Nat) : Int) = g ∧ n / g = k ∧ d / g = l := by
  have g0 := gcd_pos (n := n) hd
  obtain ⟨k, hk⟩ := Int.gcd_dvd_left (a := n) (b := d)
  obtain ⟨l, hl⟩ := Int.gcd_dvd_right (a := n) (b := d)
  have hg : ((Int.gcd n d : Nat) : Int) ≠ 0 := by omega
  refine ⟨k, l, ((Int.gcd n d : Nat) : Int), by omega, hk, hl, rfl, ?_, ?_⟩
  · conv => lhs; rw [show n / ((Int.gcd n d : Nat) : Int) = (((Int.gcd n d : Nat) : Int) * k) / ((Int.gcd n d : Nat) : Int) by rw [← hk]]
    exact Int.mul_ediv_cancel_left k hg
  · conv => lhs; rw [show d / ((Int.gcd n d : Nat) : Int) = (((Int.gcd n d : Nat) : Int) * l) / ((Int.gcd n d : Nat) : Int) by rw [← hl]]
    exact Int.mul_ediv_cancel_left l hg
theorem low_le (n d : Int) (hd : d ≠ 0) : (lowN n d).natAbs ≤ n.natAbs ∧ (lowD n d).natAbs ≤ d.natAbs := by
  obtain ⟨k, l, g, g0, hk, hl, eg, e1, e2⟩ := low_exact n d hd
  have a1 : k.natAbs ≤ n.natAbs := by
    rw [hk, Int.natAbs_mul]
    exact Nat.le_mul_of_pos_left _ (by omega)
  have a2 : l.natAbs ≤ d.natAbs := by
    rw [hl, Int.natAbs_mul]
    exact Nat.le_mul_of_pos_left _ (by omega)
  unfold lowN lowD
  rw [eg, e1, e2]
  split
  · rw [Int.natAbs_neg, Int.natAbs_neg]
    exact ⟨a1, a2⟩
  · exact ⟨a1, a2⟩
theorem low_mul (n d m : Int) (hd : d ≠ 0) (hm : m ≠ 0) : lowN (n * m) (d * m) = lowN n d ∧ lowD (n * m) (d * m) = lowD n d := by
  obtain ⟨k, l, g, g0, hk, hl, eg, e1, e2⟩ := low_exact n d hd
  have hg : ((Int.gcd (n * m) (d * m) : Nat) : Int) = g * (m.natAbs : Int) := by
    rw [Int.gcd_mul_right, Int.natCast_mul, eg]
  unfold lowN lowD
  rw [hg, eg, e1, e2]
  rcases Int.lt_or_gt_of_ne hm with h | h
  · have hma : (m.natAbs : Int) = -m := by omega
    rw [hma]
    have h1 : n * m / (g * -m) = -k := by
      rw [hk, show g * k * m = (g * -m) * (-k) by grind]
      exact Int.mul_ediv_cancel_left _ (Int.mul_ne_zero (by omega) (by omega))
    have h2 : d * m / (g * -m) = -l := by
      rw [hl, show g * l * m = (g * -m) * (-l) by grind]
      exact Int.mul_ediv_cancel_left _ (Int.mul_ne_zero (by omega) (by omega))
    rw [h1, h2]
    rcases Int.lt_or_gt_of_ne hd with c | c
    · have : ¬ d * m < 0 := Int.not_lt.mpr (Int.le_of_lt (Int.mul_pos_of_neg_of_neg c h))
      rw [if_neg this, if_neg this, if_pos c, if_pos c]
      exact ⟨rfl, rfl⟩
    · have : d * m < 0 := Int.mul_neg_of_pos_of_neg c h
      have c' : ¬ d < 0 := by omega
      rw [if_pos this, if_pos this, if_neg c', if_neg c', Int.neg_neg, Int.neg_neg]
      exact ⟨rfl, rfl⟩
  · have hma : (m.natAbs : Int) = m := by omega
    rw [hma]
    have h1 : n * m / (g * m) = k := by
      rw [hk, show g * k * m = (g * m) * k by grind]
      exact Int.mul_ediv_cancel_left _ (Int.mul_ne_zero (by omega) (by omega))
    have h2 : d * m / (g * m) = l := by
      rw [hl, show g * l * m = (g * m) * l by grind]
      exact Int.mul_ediv_cancel_left _ (Int.mul_ne_zero (by omega) (by omega))
    rw [h1, h2]
    rcases Int.lt_or_gt_of_ne hd with c | c
    · have : d * m < 0 := Int.mul_neg_of_neg_of_pos c h
      rw [if_pos this, if_pos this, if_pos c, if_pos c]
      exact ⟨rfl, rfl⟩
    · have : ¬ d * m < 0 := Int.not_lt.mpr (Int.le_of_lt (Int.mul_pos c h))
      have c' : ¬ d < 0 := by omega
      rw [if_neg this, if_neg this, if_neg c', if_neg c']
      exact ⟨rfl, rfl⟩
theorem low_zero (d : Int) (hd : d ≠ 0) : lowN 0 d = 0 ∧ lowD 0 d = 1 := by
  unfold lowN lowD
  rw [Int.gcd_zero_left]
  rcases Int.lt_or_gt_of_ne hd with c | c
  · have e : (d.natAbs : Int) = -d := by omega
    rw [if_pos c, if_pos c, e, Int.zero_ediv, Int.ediv_neg, Int.ediv_self hd]
    omega
  · have e : (d.natAbs : Int) = d := by omega
    rw [if_neg (by omega), if_neg (by omega), e, Int.zero_ediv, Int.ediv_self hd]
    omega
theorem low_self (d : Int) (hd : d ≠ 0) : lowN d d = 1 ∧ lowD d d = 1 := by
  unfold lowN lowD
  rw [Int.gcd_self]
  rcases Int.lt_or_gt_of_ne hd with c | c
  · have e : (d.natAbs : Int) = -d := by omega
    rw [if_pos c, e, Int.ediv_neg, Int.ediv_self hd]
    omega
  · have e : (d.natAbs : Int) = d := by omega
    rw [if_neg (by omega), e, Int.ediv_self hd]
    omega
theorem cmp_sign (x y : Int) : cmpI x y = (if decide (x - y > 0) = true then 1 else 0) - (if decide (x - y < 0) = true then 1 else 0) := by
  unfold cmpI
  rcases Int.lt_trichotomy x y with h | h | h
  · rw [if_pos h, decide_eq_false (by omega), decide_eq_true (by omega)]
    rfl
  · subst h
    simp
  · rw [if_neg (by omega), if_pos h, decide_eq_true (by omega), decide_eq_false (by omega)]
    rfl
theorem cmp_turn (x y : Int) : cmpI x y = 0 - cmpI y x := by
  unfold cmpI
  rcases Int.lt_trichotomy x y with h | h | h
  · rw [if_pos h, if_neg (by omega), if_pos h]
    rfl
  · subst h
    simp
  · rw [if_neg (by omega), if_pos h, if_pos h]
    rfl
/-! ### lists of pairs -/
def PairsAt (H : Hp) (l : Addr) (fr : List (Int × Int)) : Prop := ∃ ps : List Addr, H l = some (.lst (ps.map V.ref)) ∧ ps.length = fr.length ∧ ∀ (j : Nat) (p : Addr) (q : Int × Int), ps[j]? = some p → fr[j]? = some q → H p = some (.tup [.int q.1, .int q.2])
theorem PairsAt.mono {H H' : Hp} {l : Addr} {fr : List (Int × Int)} (s : Same H H') (h : PairsAt H l fr) : PairsAt H' l fr := by
  obtain ⟨ps, h1, h2, h3⟩ := h
  exact ⟨ps, s _ _ h1, h2, fun j p q a b => s _ _ (h3 j p q a b)⟩
def low (q : Int × Int) : Int × Int := (lowN q.1 q.2, lowD q.1 q.2)
theorem i_seq {t u : TS} {D : Ends} {σ : L2.St} {H : Hp} (h : t { D with nx := u D } σ H) : tSeq t u D σ H := h
theorem i_asg {te : TE} {g : TG} {D : Ends} {σ : L2.St} {H : Hp} (h : te σ H fun x H1 => g x σ H1 D.nx) : tAsg te g D σ H := h
theorem getL {α β : Type} {f : α → β} {xs : List α} {i : Nat} {y : β} (h : (xs.map f)[i]? = some y) : ∃ x, xs[i]? = some x ∧ y = f x := by
  rw [List.getElem?_map] at h
  cases e : xs[i]? with
  | none => rw [e] at h; cases h
  | some x => rw [e] at h; exact ⟨x, rfl, (Option.some.inj h).symm⟩
theorem getS {α : Type} {xs : List α} {i : Nat} (h : i < xs.length) : ∃ x, xs[i]? = some x := ⟨xs[i], List.getElem?_eq_getElem h⟩
section
variable {P : Program} {w : World} {K : PySem.W.Frag} {mg : Str → Option Value} {base : Heap}
theorem lc_fr {E : XK} {H : Hp} {Q : VK} {L : Addr} {prs : List (Int × Int)} {x0 x1 x2 x3 x4 x5 x6 x8 x9 x10 x11 x12 : Option V} (hP : PairsAt H L prs) (hl : prs.length < 1000) (hz : ∀ q ∈ prs, q.2 ≠ 0 ∧ q.2.natAbs < 2 ^ 8000)
    (k : ∀ D H', Same H H' → H D = none → PairsAt H' D (prs.map low) → Q (.ref D) H') :
    tLc (iList K (tVar 7)) (gTup K 2 (gCons (gName 6) (gCons (gName 9) gNil))) tYes (tCall spFrac [] E (tCons (tVar 6) (tCons (tVar 9) tNil))) [6, 9] [x0, x1, x2, x3, x4, x5, x6, some (.ref L), x8, x9, x10, x11, x12] H Q := by
  obtain ⟨ps, h1, h2, h3⟩ := hP
  refine ⟨_, rfl, L, rfl, ⟨_, SqL.of h1⟩, fun D hD => ?_⟩
  refine lc_it (walk_list (xs := ps.map V.ref)) (fun i H3 => Same H H3 ∧ PairsAt H3 D ((prs.take i).map low)) ⟨same_new hD, [], upd_same, rfl, fun j p q a b => by simp at a⟩ (fun i H3 _ h => SqL.of (h.1 _ _ h1)) (fun i x H3 H4 hi h hy => ?_) (fun H3 h => ?_)
  · obtain ⟨rfl, hx⟩ := hy
    obtain ⟨p, hp, rfl⟩ := getL hx
    rw [List.length_map] at hi
    obtain ⟨⟨qn, qd⟩, hq⟩ := getS (xs := prs) (i := i) (by omega)
    obtain ⟨sm, rs, r1, r2, r3⟩ := h
    have ht := h3 i p (qn, qd) hp hq
    obtain ⟨z1, z2⟩ := hz (qn, qd) (List.mem_of_getElem? hq)
    refine ⟨p, _, rfl, SqT.of (sm _ _ ht), rfl, _, _, rfl, _, _, rfl, rfl, rfl, ?_⟩
    refine ⟨_, rfl, _, rfl, qn, qd, rfl, z1, z2, fun r hr => ?_⟩
    have nrD : D ≠ r := ne_of_none r1 hr
    refine ⟨rs.map V.ref, ?_, ?_, ?_⟩
    · rw [upd_ne nrD]
      exact r1
    · rw [List.length_map, r2, List.length_map, List.length_take]
      exact Nat.lt_of_le_of_lt (Nat.min_le_right _ _) (Nat.lt_trans hl (by decide))
    · refine ⟨same_put (sm.trans (same_new hr)) hD, rs ++ [r], ?_, ?_, ?_⟩
      · rw [upd_same, List.map_append]
        rfl
      · rw [List.length_append, r2, List.length_map, List.length_map, List.length_take, List.length_take]
        show _ + 1 = _
        omega
      · intro j p' q' a b
        have hlen : rs.length = i := by
          rw [r2, List.length_map, List.length_take]
          omega
        by_cases hj : j < i
        · have a' : rs[j]? = some p' := by
            rw [List.getElem?_append_left (by omega)] at a
            exact a
          have b' : ((prs.take i).map low)[j]? = some q' := by
            rw [List.getElem?_map, List.getElem?_take] at b ⊢
            rw [if_pos (by omega)] at b
            rw [if_pos hj]
            exact b
          have e := r3 j p' q' a' b'
          have n1 : p' ≠ D := fun z => by
            subst z
            rw [r1] at e
            cases e
          rw [upd_ne n1, upd_ne (ne_of_none e hr)]
          exact e
        · have hj2 : j = i := by
            have := (List.getElem?_eq_some_iff.mp a).1
            rw [List.length_append] at this
            simp at this
            omega
          subst hj2
          rw [List.getElem?_append_right (by omega), hlen, Nat.sub_self] at a
          have er : r = p' := Option.some.inj a
          subst er
          rw [List.getElem?_map, List.getElem?_take, if_pos (by omega), hq] at b
          have eq : low (qn, qd) = q' := Option.some.inj b
          subst eq
          rw [upd_ne nrD.symm, upd_same]
          rfl
  · obtain ⟨sm, hh⟩ := h
    rw [List.length_map, h2, List.take_of_length_le (Nat.le_refl _)] at hh
    exact k D H3 sm hD hh
end
section
variable {P : Program} {w : World} {K : PySem.W.Frag} {mg : Str → Option Value} {base : Heap}
def nz (x : Int) : Int := if x ≠ 0 then x else 12
theorem nz_ne (x : Int) : nz x ≠ 0 := by
  unfold nz
  split
  · assumption
  · decide
theorem nz_sm {x : Int} (h : Sm x) : Sm (nz x) := by
  unfold nz
  split
  · exact h
  · show (12 : Nat) < 2 ^ 300
    decide
theorem pow_le {a b : Nat} (h : a ≤ b) : (2 : Nat) ^ a ≤ 2 ^ b := Nat.pow_le_pow_right (by decide) h
theorem sm_sz {x : Int} (h : Sm x) : Sz x := Nat.lt_of_lt_of_le h (pow_le (by decide))
theorem sm_mul {x y : Int} (h : Sm x) (h' : Sm y) : (x * y).natAbs < 2 ^ 600 := wide_lt h h'
theorem eqv2 (a b : Int) : PyData.eqv (.tuple [.int a, .int b]) (.tuple [.int a, .int b]) = true := by simp [PyData.eqv, PyData.eqvAll]
theorem dt_cmp {H : Hp} {n : Nat} {x y : Int} : Dt H (n + 1) (.int (cmpI x y)) (.int ((if decide (0 < x - y) = true then 1 else 0) - (if decide (x - y < 0) = true then 1 else 0))) := by
  rw [cmp_sign]
  exact Dt.int _
def spRight : Sp := fun vs H Q _ => ∃ (a : Addr) (o : HO), vs = [.ref a] ∧ H a = some o ∧ BoxO o 0 ∧ ∀ H', But a H H' → Q (.bl true) H'
theorem ok_Lright (T : Tx K mg) : FnOk P w K mg base CX0 5 T.a_Lright T.f_Lright ["_law_box_here"] spRight := by
  have G_Lnumber : FnOk P w K mg base CX0 2 T.a_Lnumber T.f_Lnumber ["_law_box_here"] spNum := ok_Lnumber T
  have G_Llowest : FnOk P w K mg base CX0 1 T.a_Llowest T.f_Llowest ["_law_n", "_law_d"] spFrac := ok_Llowest T
  have G_fraction_of : FnOk P w K mg base CX0 2 T.a_fraction_of T.f_fraction_of ["n", "d"] spFrac := ok_fraction_of T
  have G_compare_two : FnOk P w K mg base CX0 1 T.a_compare_two T.f_compare_two ["one", "other"] (spCmp K) := ok_compare_two T
  have G_Lsame : FnOk P w K mg base CX0 4 T.a_Lsame T.f_Lsame ["_law_found", "_law_due"] (spSame 3) := ok_Lsame T 3
  refine T.d_Lright.F.ok sc_Lright (fun vs H Q E h => ?_) (fun cdv A outer s H vs Q E hr h => ?_)
  · obtain ⟨a, o, rfl, _⟩ := h
    rfl
  · obtain ⟨a, o, rfl, ho, hB, q⟩ := h
    refine ⟨_, (pss_cons
    (ps_asg (pe_lc (own := [("_law_k", 5)]) (g := (gName 5)) (tt := tYes) rfl sc_Lright.nd (pi_range1 (by rfl) T.z_range (pa_cons pe_int pa_nil)) (blkOk_by (own := [("_law_k", 5)]) (N := ["_law_box_here", "_law_n", "_law_d", "_law_more", "_law_other", "_law_k", "_law_one", "_law_some", "_law_due", "_law_two", "_law_turn", "_law_found", "_law_side"]) (sc := defScope s_Lright) (by decide +kernel)) (fun _ _ _ _ _ => (pg_name (i := 5) sc_Lright.nd rfl (.inl rfl) (.inr rfl))) (fun _ _ _ _ _ => pts_nil) (fun _ _ _ _ _ => (pe_call G_Lnumber (hr.mono (by decide)) (by rfl) T.d_Lnumber.g T.d_Lnumber.F.kp T.d_Lnumber.b .nil pass0 (pa_cons (pv 0) pa_nil)))) (pg_unl rfl (pgs_cons (pg_name (i := 1) sc_Lright.nd rfl (.inl rfl)) (pgs_cons (pg_name (i := 2) sc_Lright.nd rfl (.inl rfl)) (pgs_cons (pg_name (i := 3) sc_Lright.nd rfl (.inl rfl)) (pgs_cons (pg_name (i := 4) sc_Lright.nd rfl (.inl rfl)) pgs_nil))))))
    (pss_cons
    (ps_asg (pe_lc (own := [("_law_one", 6)]) (g := (gName 6)) (tt := tYes) rfl sc_Lright.nd (pi_tup (pe_tup (pa_cons (pv 2) (pa_cons (pv 3) (pa_cons (pv 4) pa_nil))))) (blkOk_by (own := [("_law_one", 6)]) (N := ["_law_box_here", "_law_n", "_law_d", "_law_more", "_law_other", "_law_k", "_law_one", "_law_some", "_law_due", "_law_two", "_law_turn", "_law_found", "_law_side"]) (sc := defScope s_Lright) (by decide +kernel)) (fun _ _ _ _ _ => (pg_name (i := 6) sc_Lright.nd rfl (.inl rfl) (.inr rfl))) (fun _ _ _ _ _ => pts_nil) (fun _ _ _ _ _ => (pe_ifExp (pt_cmpR op_ne (pv 6) pe_int (nomark _)) (pv 6) pe_int))) (pg_unl rfl (pgs_cons (pg_name (i := 2) sc_Lright.nd rfl (.inl rfl)) (pgs_cons (pg_name (i := 3) sc_Lright.nd rfl (.inl rfl)) (pgs_cons (pg_name (i := 4) sc_Lright.nd rfl (.inl rfl)) pgs_nil)))))
    (pss_cons
    (ps_set (i := 7) sc_Lright.nd rfl (.inl rfl) (pe_lst (pa_cons (pe_tup (pa_cons (pv 1) (pa_cons (pv 2) pa_nil))) (pa_cons (pe_tup (pa_cons (pe_op op_mulW (pv 1) (pv 3)) (pa_cons (pe_op op_mulW (pv 2) (pv 3)) pa_nil))) (pa_cons (pe_tup (pa_cons (pv 1) (pa_cons (pv 4) pa_nil))) (pa_cons (pe_tup (pa_cons (pe_op op_add (pe_op op_mulW (pv 1) (pv 3)) pe_int) (pa_cons (pe_op op_mulW (pv 2) (pv 3)) pa_nil))) pa_nil))))))
    (pss_cons
    (ps_setLc (i := 8) (own := [("_law_one", 6), ("_law_two", 9)]) (g := (gTup K 2 (gCons (gName 6) (gCons (gName 9) gNil)))) (tt := tYes) rfl sc_Lright.nd rfl rfl (sw_true rfl rfl rfl (by decide +kernel)) (pi_list (pv 7)) (blkOk_by (own := [("_law_one", 6), ("_law_two", 9)]) (N := ["_law_box_here", "_law_n", "_law_d", "_law_more", "_law_other", "_law_k", "_law_one", "_law_some", "_law_due", "_law_two", "_law_turn", "_law_found", "_law_side"]) (sc := defScope s_Lright) (by decide +kernel)) (fun _ _ _ _ _ => (pg_tup rfl (pgs_cons (pg_name (i := 6) sc_Lright.nd rfl (.inl rfl) (.inr rfl)) (pgs_cons (pg_name (i := 9) sc_Lright.nd rfl (.inl rfl) (.inr rfl)) pgs_nil)))) (fun _ _ _ _ _ => pts_nil) (fun _ _ _ _ _ => (pe_call G_Llowest (hr.mono (by decide)) (by rfl) T.d_Llowest.g T.d_Llowest.F.kp T.d_Llowest.b .nil pass0 (pa_cons (pv 6) (pa_cons (pv 9) pa_nil)))))
    (pss_cons
    (ps_for PassesOwn.never rfl (pi_range1 (by rfl) T.z_range (pa_cons pe_int pa_nil)) (pg_name (i := 10) sc_Lright.nd rfl (.inl rfl)) (pss_cons
        (ps_setLc (i := 11) (own := [("_law_one", 6), ("_law_two", 9)]) (g := (gTup K 2 (gCons (gName 6) (gCons (gName 9) gNil)))) (tt := tYes) rfl sc_Lright.nd rfl rfl (sw_true rfl rfl rfl (by decide +kernel)) (pi_list (pv 7)) (blkOk_by (own := [("_law_one", 6), ("_law_two", 9)]) (N := ["_law_box_here", "_law_n", "_law_d", "_law_more", "_law_other", "_law_k", "_law_one", "_law_some", "_law_due", "_law_two", "_law_turn", "_law_found", "_law_side"]) (sc := defScope s_Lright) (by decide +kernel)) (fun _ _ _ _ _ => (pg_tup rfl (pgs_cons (pg_name (i := 6) sc_Lright.nd rfl (.inl rfl) (.inr rfl)) (pgs_cons (pg_name (i := 9) sc_Lright.nd rfl (.inl rfl) (.inr rfl)) pgs_nil)))) (fun _ _ _ _ _ => pts_nil) (fun _ _ _ _ _ => (pe_call G_fraction_of (hr.mono (by decide)) (by rfl) T.d_fraction_of.g T.d_fraction_of.F.kp T.d_fraction_of.b .nil pass0 (pa_cons (pv 6) (pa_cons (pv 9) pa_nil)))))
        (pss_one
        (ps_if (PW.pt (pw_or (pt_not (pt_val (pe_call G_Lsame (hr.mono (by decide)) (by rfl) T.d_Lsame.g T.d_Lsame.F.kp T.d_Lsame.b .nil pass0 (pa_cons (pv 11) (pa_cons (pv 8) pa_nil))))) (pw_or1 (pt_cmpR (op_neD hr.units) (pe_ix ix_list (pv 11) pe_int (fun _ _ => rfl)) (pe_ix ix_list (pv 11) pe_int (fun _ _ => rfl)) (nomark _))))) (pss_one
            (ps_ret pe_bl)) pss_nil))))
    (pss_cons
    (ps_for PassesOwn.never rfl (pi_list (pv 8)) (pg_name (i := 6) sc_Lright.nd rfl (.inl rfl)) (pss_one
        (ps_for PassesOwn.never rfl (pi_list (pv 8)) (pg_name (i := 9) sc_Lright.nd rfl (.inl rfl)) (pss_cons
            (ps_set (i := 12) sc_Lright.nd rfl (.inl rfl) (pe_op op_sub (pe_op op_mulW (pe_ix ix_tup (pv 6) pe_int (fun _ _ => rfl)) (pe_ix ix_tup (pv 9) pe_int (fun _ _ => rfl))) (pe_op op_mulW (pe_ix ix_tup (pv 9) pe_int (fun _ _ => rfl)) (pe_ix ix_tup (pv 6) pe_int (fun _ _ => rfl)))))
            (pss_cons
            (ps_if (pt_not (pt_val (pe_call G_Lsame (hr.mono (by decide)) (by rfl) T.d_Lsame.g T.d_Lsame.F.kp T.d_Lsame.b .nil pass0 (pa_cons (pe_call G_compare_two (hr.mono (by decide)) (by rfl) T.d_compare_two.g T.d_compare_two.F.kp T.d_compare_two.b .nil pass0 (pa_cons (pv 6) (pa_cons (pv 9) pa_nil))) (pa_cons (pe_op op_sub (pe_callTy call_int1 (by rfl) T.z_int (by decide +kernel) (pa_cons (pe_cmpR op_gt (pv 12) pe_int (nomark _)) pa_nil)) (pe_callTy call_int1 (by rfl) T.z_int (by decide +kernel) (pa_cons (pe_cmpR op_lt (pv 12) pe_int (nomark _)) pa_nil))) pa_nil))))) (pss_one
                (ps_ret pe_bl)) pss_nil)
            (pss_one
            (ps_if (pt_cmpR op_ne (pe_call G_compare_two (hr.mono (by decide)) (by rfl) T.d_compare_two.g T.d_compare_two.F.kp T.d_compare_two.b .nil pass0 (pa_cons (pv 9) (pa_cons (pv 6) pa_nil))) (pe_op op_sub pe_int (pe_call G_compare_two (hr.mono (by decide)) (by rfl) T.d_compare_two.g T.d_compare_two.F.kp T.d_compare_two.b .nil pass0 (pa_cons (pv 6) (pa_cons (pv 9) pa_nil)))) (nomark _)) (pss_one
                (ps_ret pe_bl)) pss_nil)))))))
    (pss_one
    (ps_ret (pe_and (pe_cmpR (op_eqD hr.units) (pe_call G_fraction_of (hr.mono (by decide)) (by rfl) T.d_fraction_of.g T.d_fraction_of.F.kp T.d_fraction_of.b .nil pass0 (pa_cons pe_int (pa_cons (pv 2) pa_nil))) (pe_tup (pa_cons pe_int (pa_cons pe_int pa_nil))) (nomark _)) (pe_one (pe_cmpR (op_eqD hr.units) (pe_call G_fraction_of (hr.mono (by decide)) (by rfl) T.d_fraction_of.g T.d_fraction_of.F.kp T.d_fraction_of.b .nil pass0 (pa_cons (pv 2) (pa_cons (pv 2) pa_nil))) (pe_tup (pa_cons pe_int (pa_cons pe_int pa_nil))) (nomark _)))))))))))), ?_⟩
    -- four numbers
    refine ⟨4, rfl, by decide, by decide, fun D hD => ?_⟩
    have nDa : D ≠ a := fun e => by
      subst e
      rw [ho] at hD
      cases hD
    refine lc_it walk_range (fun i H3 => ∃ (ns : List Int) (o : HO), ns.length = i ∧ (∀ x ∈ ns, Sm x) ∧ H3 D = some (.lst (ns.map V.int)) ∧ H3 a = some o ∧ BoxO o (3 * i) ∧ But a H H3)
      ⟨[], o, rfl, fun x hx => by simp at hx, upd_same, by rw [upd_ne nDa.symm]; exact ho, hB, But.of (same_new hD)⟩ (fun _ _ _ _ => trivial) (fun i x H3 H4 hi h hy => ?_) (fun H3 h => ?_)
    · obtain ⟨rfl, rfl⟩ := hy
      obtain ⟨ns, o3, hl, hs, h1, h2, h3, h4⟩ := h
      have hi4 : i < 4 := hi
      refine ⟨rfl, ?_⟩
      refine ⟨_, rfl, a, o3, 3 * i, rfl, h2, h3, by omega, fun r o4 H5 hr1 hb ho5 hB5 => ?_⟩
      refine ⟨ns.map V.int, hb _ _ h1 nDa, ?_, ?_⟩
      · rw [List.length_map, hl]
        exact Nat.lt_trans hi4 (by decide)
      · refine ⟨ns ++ [r], o4, by simp [hl], fun x hx => ?_, ?_, ?_, hB5, ?_⟩
        · rcases List.mem_append.mp hx with hx | hx
          · exact hs x hx
          · rw [List.mem_singleton.mp hx]
            exact hr1
        · rw [upd_same, List.map_append]
          rfl
        · rw [upd_ne nDa.symm]
          exact ho5
        · intro b ob e ne
          rw [upd_ne (ne_of_none e hD)]
          exact hb _ _ (h4 _ _ e ne) ne
    · obtain ⟨ns, o3, hl, hs, h1, h2, h3, h4⟩ := h
      obtain ⟨n, d0, m0, t0, rfl⟩ : ∃ n d m t, ns = [n, d, m, t] := by
        match ns, hl with
        | [n, d, m, t], _ => exact ⟨n, d, m, t, rfl⟩
      have sn : Sm n := hs n (by simp)
      have sd0 : Sm d0 := hs d0 (by simp)
      have sm0 : Sm m0 := hs m0 (by simp)
      have st0 : Sm t0 := hs t0 (by simp)
      refine ⟨D, _, rfl, SqL.of h1, rfl, _, _, rfl, _, _, rfl, _, _, rfl, _, _, rfl, rfl, ?_⟩
      -- none of three is nought
      refine ⟨_, rfl, _, rfl, _, rfl, by show 3 ≤ sizeLine; decide, fun p hp => ⟨p, rfl, ⟨_, SqT.of upd_same⟩, fun D2 hD2 => ?_⟩⟩
      have hbp : But a H (upd H3 p (.tup [.int d0, .int m0, .int t0])) := h4.trans (But.of (same_new hp))
      have htp : (upd H3 p (.tup [.int d0, .int m0, .int t0])) p = some (.tup [.int d0, .int m0, .int t0]) := upd_same
      generalize upd H3 p (.tup [.int d0, .int m0, .int t0]) = Hb at hD2 hbp htp ⊢
      refine lc_it (walk_tup (xs := [.int d0, .int m0, .int t0])) (fun i H5 => Same Hb H5 ∧ H5 D2 = some (.lst ((([d0, m0, t0].map nz).take i).map V.int))) ⟨same_new hD2, upd_same⟩ (fun i H5 _ h => SqT.of (h.1 _ _ htp)) (fun i x H5 H6 hi h hy => ?_) (fun H5 h => ?_)
      · obtain ⟨rfl, hx⟩ := hy
        obtain ⟨v, hv, rfl⟩ := getL (f := V.int) (xs := [d0, m0, t0]) hx
        have hi3 : i < 3 := hi
        have ev : ([d0, m0, t0].map nz)[i]? = some (nz v) := by
          rw [List.getElem?_map, hv]
          rfl
        have go : ∃ acc, H6 D2 = some (.lst acc) ∧ acc.length < sizeLine ∧ (Same Hb (upd H6 D2 (.lst (acc ++ [.int (nz v)]))) ∧ (upd H6 D2 (.lst (acc ++ [.int (nz v)]))) D2 = some (.lst ((([d0, m0, t0].map nz).take (i + 1)).map V.int))) := by
          refine ⟨_, h.2, ?_, same_put h.1 hD2, ?_⟩
          · rw [List.length_map, List.length_take]
            exact Nat.lt_of_le_of_lt (Nat.min_le_left _ _) (Nat.lt_trans hi3 (by decide))
          · rw [upd_same, List.take_add_one, ev, List.map_append]
            rfl
        refine ⟨rfl, ?_⟩
        refine ⟨_, rfl, rfl, _, rfl, ite2 (fun e => ?_) (fun e => ?_)⟩
        · have hv0 : v ≠ 0 := fun z => by
            subst z
            simp at e
          rw [show nz v = v from if_pos hv0] at go
          exact ⟨_, rfl, go⟩
        · have hv0 : v = 0 := by
            by_cases z : v = 0
            · exact z
            · exact absurd (by simpa using z) e
          rw [show nz v = 12 by rw [hv0]; rfl] at go
          exact go
      · obtain ⟨hsb, hD5⟩ := h
        have hd := nz_ne d0
        have hm := nz_ne m0
        have ht := nz_ne t0
        have sd := nz_sm sd0
        have sm := nz_sm sm0
        have st := nz_sm st0
        refine ⟨D2, _, rfl, SqL.of hD5, rfl, _, _, rfl, _, _, rfl, _, _, rfl, rfl, ?_⟩
        have hb5 : But a H H5 := hbp.trans (But.of hsb)
        clear hD5 hsb hbp htp hD2 h1 hs
        generalize nz d0 = d at hd sd ⊢
        generalize nz m0 = m at hm sm ⊢
        generalize nz t0 = t at ht st ⊢
        have cm : CMulW n m := wide_mul sn sm (by decide) (by decide) (by decide)
        have cd : CMulW d m := wide_mul sd sm (by decide) (by decide) (by decide)
        -- the pairs
        refine ⟨_, rfl, _, rfl, by show 2 ≤ sizeLine; decide, fun p1 hp1 => ⟨_, rfl, _, rfl, _, _, rfl, rfl, cm, _, rfl, _, rfl, _, _, rfl, rfl, cd, by show 2 ≤ sizeLine; decide, fun p2 hp2 => ⟨_, rfl, _, rfl, by show 2 ≤ sizeLine; decide, fun p3 hp3 => ⟨_, rfl, _, rfl, _, _, rfl, rfl, cm, _, _, rfl, rfl, _, rfl, _, rfl, _, _, rfl, rfl, cd, by show 2 ≤ sizeLine; decide, fun p4 hp4 => ⟨by show 4 ≤ sizeLine; decide, fun L hL => ?_⟩⟩⟩⟩⟩
        have s1 := same_new (o := .tup [.int n, .int d]) hp1
        have s2 := same_new (o := .tup [.int (n * m), .int (d * m)]) hp2
        have s3 := same_new (o := .tup [.int n, .int t]) hp3
        have s4 := same_new (o := .tup [.int (n * m + 1), .int (d * m)]) hp4
        have s5 := same_new (o := .lst [.ref p1, .ref p2, .ref p3, .ref p4]) hL
        have hP : PairsAt (upd (upd (upd (upd (upd H5 p1 (.tup [.int n, .int d])) p2 (.tup [.int (n * m), .int (d * m)])) p3 (.tup [.int n, .int t])) p4 (.tup [.int (n * m + 1), .int (d * m)])) L (.lst [.ref p1, .ref p2, .ref p3, .ref p4])) L [(n, d), (n * m, d * m), (n, t), (n * m + 1, d * m)] := by
          refine ⟨[p1, p2, p3, p4], upd_same, rfl, fun j p q a b => ?_⟩
          match j, a, b with
          | 0, a, b => cases a; cases b; exact s5 _ _ (s4 _ _ (s3 _ _ (s2 _ _ upd_same)))
          | 1, a, b => cases a; cases b; exact s5 _ _ (s4 _ _ (s3 _ _ upd_same))
          | 2, a, b => cases a; cases b; exact s5 _ _ (s4 _ _ upd_same)
          | 3, a, b => cases a; cases b; exact s5 _ _ upd_same
          | j + 4, a, b => simp at a
        have hb7 : But a H (upd (upd (upd (upd (upd H5 p1 (.tup [.int n, .int d])) p2 (.tup [.int (n * m), .int (d * m)])) p3 (.tup [.int n, .int t])) p4 (.tup [.int (n * m + 1), .int (d * m)])) L (.lst [.ref p1, .ref p2, .ref p3, .ref p4])) :=
          hb5.trans (But.of (((((s1.trans s2).trans s3).trans s4).trans s5)))
        generalize upd (upd (upd (upd (upd H5 p1 (.tup [.int n, .int d])) p2 (.tup [.int (n * m), .int (d * m)])) p3 (.tup [.int n, .int t])) p4 (.tup [.int (n * m + 1), .int (d * m)])) L (.lst [.ref p1, .ref p2, .ref p3, .ref p4]) = H7 at hP hb7 ⊢
        clear s1 s2 s3 s4 s5 hp1 hp2 hp3 hp4 hL hb5
        have hdm : d * m ≠ 0 := Int.mul_ne_zero hd hm
        have z1 : (n * m).natAbs < 2 ^ 600 := sm_mul sn sm
        have z2 : (d * m).natAbs < 2 ^ 600 := sm_mul sd sm
        have z3 : (n * m + 1).natAbs < 2 ^ 601 := by
          have : (n * m + 1).natAbs ≤ (n * m).natAbs + 1 := by omega
          have e : (2 : Nat) ^ 601 = 2 ^ 600 * 2 := Nat.pow_succ 2 600
          omega
        have hz : ∀ q ∈ [(n, d), (n * m, d * m), (n, t), (n * m + 1, d * m)], Sz q.1 ∧ q.2 ≠ 0 ∧ Sz q.2 := by
          intro q hq
          simp only [List.mem_cons, List.not_mem_nil, or_false] at hq
          have w1 : Sz (n * m) := Nat.lt_of_lt_of_le z1 (pow_le (by decide))
          have w2 : Sz (d * m) := Nat.lt_of_lt_of_le z2 (pow_le (by decide))
          have w3 : Sz (n * m + 1) := Nat.lt_of_lt_of_le z3 (pow_le (by decide))
          rcases hq with rfl | rfl | rfl | rfl
          · exact ⟨sm_sz sn, hd, sm_sz sd⟩
          · exact ⟨w1, hdm, w2⟩
          · exact ⟨sm_sz sn, ht, sm_sz st⟩
          · exact ⟨w3, hdm, w2⟩
        have elow : low (n, d) = low (n * m, d * m) := by
          have := low_mul n d m hd hm
          show (lowN n d, lowD n d) = (lowN (n * m) (d * m), lowD (n * m) (d * m))
          rw [this.1, this.2]
        have hfr : ([(n, d), (n * m, d * m), (n, t), (n * m + 1, d * m)].map low)[0]? = some (low (n, d)) ∧ ([(n, d), (n * m, d * m), (n, t), (n * m + 1, d * m)].map low)[1]? = some (low (n, d)) := ⟨rfl, by rw [elow]; rfl⟩
        have hlow : ∀ q ∈ [(n, d), (n * m, d * m), (n, t), (n * m + 1, d * m)].map low, Sz q.1 ∧ Sz q.2 := by
          intro q hq
          obtain ⟨r, hr, rfl⟩ := List.mem_map.mp hq
          obtain ⟨a1, a2, a3⟩ := hz r hr
          have := low_le r.1 r.2 a2
          exact ⟨Nat.lt_of_le_of_lt this.1 a1, Nat.lt_of_le_of_lt this.2 a3⟩
        have hlen : ([(n, d), (n * m, d * m), (n, t), (n * m + 1, d * m)]).length = 4 := rfl
        clear z1 z2 z3
        generalize [(n, d), (n * m, d * m), (n, t), (n * m + 1, d * m)] = prs at hP hz hfr hlow hlen ⊢
        -- due
        refine i_seq (i_asg (lc_fr hP (by omega) (fun q hq => (hz q hq).2) fun U H8 s8 nU hU => ?_))
        have hb8 : But a H H8 := hb7.trans (But.of s8)
        have hP8 := hP.mono s8
        clear hP s8 nU hb7
        -- twice
        refine ⟨2, rfl, by decide, by decide, for_it walk_range (fun i σ H9 => ∃ y10 y11, σ = [some (.ref a), some (.int n), some (.int d), some (.int m), some (.int t), none, none, some (.ref L), some (.ref U), none, y10, y11, none] ∧ Same H8 H9)
          ⟨none, none, rfl, Same.refl _⟩ (fun _ _ _ _ _ => trivial) (fun i x σ H9 H10 hi h hy => ?_) (fun σ H9 h => ?_)⟩
        · obtain ⟨rfl, rfl⟩ := hy
          obtain ⟨y10, y11, rfl, s9⟩ := h
          refine i_seq (i_asg (lc_fr (hP8.mono s9) (by omega) (fun q hq => (hz q hq).2) fun F H11 s11 nF hF => ?_))
          have hU11 := hU.mono (s9.trans s11)
          obtain ⟨us, u1, u2, u3⟩ := hU11
          obtain ⟨fs, f1, f2, f3⟩ := hF
          rw [List.length_map, hlen] at u2 f2
          refine ⟨_, rfl, _, rfl, .ref F, .ref U, rfl, .inr ⟨F, U, _, _, rfl, rfl, .inl ⟨f1, u1⟩, by simp [u2, f2], by rw [List.length_map, f2]; decide, fun j u v ju jv => ?_⟩, fun H12 s12 => ⟨_, rfl, iteNeg (by decide) ?_⟩⟩
          · obtain ⟨pu, ju', rfl⟩ := getL ju
            obtain ⟨pv, jv', rfl⟩ := getL jv
            have hj : j < 4 := by
              have := (List.getElem?_eq_some_iff.mp ju').1
              omega
            obtain ⟨r, hr⟩ := getS (xs := prs.map low) (i := j) (by rw [List.length_map]; omega)
            refine .inr ⟨pu, pv, _, _, rfl, rfl, .inr ⟨f3 j pu r ju' hr, u3 j pv r jv' hr⟩, rfl, by show 2 < 100000; decide, fun k x y kx ky => ?_⟩
            match k, kx, ky with
            | 0, kx, ky => cases kx; cases ky; exact Dt.int _
            | 1, kx, ky => cases kx; cases ky; exact Dt.int _
            | k + 2, kx, ky => simp at kx
          · obtain ⟨g0, e0⟩ := getS (xs := fs) (i := 0) (by omega)
            obtain ⟨g1, e1⟩ := getS (xs := fs) (i := 1) (by omega)
            have t0 := f3 0 g0 _ e0 hfr.1
            have t1 := f3 1 g1 _ e1 hfr.2
            have S12 : SqL K H12 F (fs.map V.ref) := SqL.of (s12 _ _ f1)
            refine ⟨_, rfl, F, _, _, _, rfl, rfl, S12, atI_nat (j := 0) (by rw [List.getElem?_map, e0]; rfl), _, rfl, F, _, _, _, rfl, rfl, S12, atI_nat (j := 1) (by rw [List.getElem?_map, e1]; rfl), _, _, .tup (SqT.of (s12 _ _ t0)) (.cons (.int _) (.cons (.int _) .nil)), .tup (SqT.of (s12 _ _ t1)) (.cons (.int _) (.cons (.int _) .nil)), rfl, rfl, _, rfl, iteNeg (by rw [eqv2]; decide) ?_⟩
            exact ⟨_, _, rfl, (s9.trans s11).trans s12⟩
        · obtain ⟨y10, y11, rfl, s9⟩ := h
          have hU9 := hU.mono s9
          have hb9 := hb8.trans (But.of s9)
          clear hU s9 hb8 hP8
          obtain ⟨us, u1, u2, u3⟩ := hU9
          rw [List.length_map, hlen] at u2
          have at_ : ∀ (i : Nat) (x : V), (us.map V.ref)[i]? = some x → ∃ (p : Addr) (r : Int × Int), x = .ref p ∧ H9 p = some (.tup [.int r.1, .int r.2]) ∧ Sz r.1 ∧ Sz r.2 := by
            intro i x hx
            obtain ⟨p, hp, rfl⟩ := getL hx
            have hj : i < 4 := by
              have := (List.getElem?_eq_some_iff.mp hp).1
              omega
            obtain ⟨r, hr⟩ := getS (xs := prs.map low) (i := i) (by rw [List.length_map]; omega)
            have := hlow r (List.mem_of_getElem? hr)
            exact ⟨p, r, rfl, u3 i p r hp hr, this.1, this.2⟩
          clear u3 hfr hlow hz
          -- each with each
          refine ⟨_, rfl, U, rfl, ⟨_, SqL.of u1⟩, for_it (walk_list (xs := us.map V.ref)) (fun i σ H10 => ∃ y6 y9 y12, σ = [some (.ref a), some (.int n), some (.int d), some (.int m), some (.int t), none, y6, some (.ref L), some (.ref U), y9, y10, y11, y12] ∧ Same H9 H10)
            ⟨none, none, none, rfl, Same.refl _⟩ (fun i σ H10 _ h => ?_) (fun i x σ H10 H11 hi h hy => ?_) (fun σ H10 h => ?_)⟩
          · obtain ⟨_, _, _, _, s⟩ := h
            exact SqL.of (s _ _ u1)
          · obtain ⟨y6, y9, y12, rfl, s10⟩ := h
            obtain ⟨rfl, hx⟩ := hy
            obtain ⟨p, r, rfl, hp, rz1, rz2⟩ := at_ i x hx
            refine ⟨_, rfl, U, rfl, ⟨_, SqL.of (s10 _ _ u1)⟩, for_it (walk_list (xs := us.map V.ref)) (fun i σ H10 => ∃ y9 y12, σ = [some (.ref a), some (.int n), some (.int d), some (.int m), some (.int t), none, some (.ref p), some (.ref L), some (.ref U), y9, y10, y11, y12] ∧ Same H9 H10)
              ⟨y9, y12, rfl, s10⟩ (fun i σ H10 _ h => ?_) (fun i x σ H12 H13 hi h hy => ?_) (fun σ H12 h => ?_)⟩
            · obtain ⟨_, _, _, s⟩ := h
              exact SqL.of (s _ _ u1)
            · obtain ⟨y9, y12, rfl, s12⟩ := h
              obtain ⟨rfl, hx⟩ := hy
              obtain ⟨p', r', rfl, hp', rz1', rz2'⟩ := at_ i x hx
              have S1 : SqT K H13 p [.int r.1, .int r.2] := SqT.of (s12 _ _ hp)
              have S2 : SqT K H13 p' [.int r'.1, .int r'.2] := SqT.of (s12 _ _ hp')
              refine ⟨_, rfl, p, _, _, _, rfl, rfl, S1, atI_nat (j := 0) rfl, _, rfl, p', _, _, _, rfl, rfl, S2, atI_nat (j := 1) rfl, _, _, rfl, rfl, rz1.mul rz2', _, rfl, p', _, _, _, rfl, rfl, S2, atI_nat (j := 0) rfl, _, rfl, p, _, _, _, rfl, rfl, S1, atI_nat (j := 1) rfl, _, _, rfl, rfl, rz1'.mul rz2, _, _, rfl, rfl, ?_⟩
              refine ⟨_, rfl, _, rfl, p, p', _, _, _, _, rfl, S1, S2, rz1, rz2, rz1', rz2', ⟨_, rfl, _, _, rfl, rfl, .inr ⟨_, rfl, ⟨_, rfl, _, _, rfl, rfl, .inr ⟨_, rfl, ⟨_, _, rfl, rfl, _, _, rfl, ?_, fun H14 s14 => ⟨_, rfl, iteNeg (by decide) ?_⟩⟩⟩⟩⟩⟩⟩
              · exact dt_cmp
              · have S1' := Same.tup s14 S1
                have S2' := Same.tup s14 S2
                refine ⟨_, rfl, _, rfl, p', p, _, _, _, _, rfl, S2', S1', rz1', rz2', rz1, rz2, ⟨_, rfl, _, rfl, p, p', _, _, _, _, rfl, S1', S2', rz1, rz2, rz1', rz2', ⟨_, _, rfl, rfl, rfl, _, rfl, iteNS (congrArg V.int (cmp_turn _ _)) ?_⟩⟩⟩
                exact ⟨_, _, rfl, s12.trans s14⟩
            · obtain ⟨y9, y12, rfl, s12⟩ := h
              exact ⟨_, _, _, rfl, s12⟩
          · obtain ⟨y6, y9, y12, rfl, s10⟩ := h
            have hw : d.natAbs < 2 ^ 8000 := sm_sz sd
            refine ⟨_, rfl, 0, d, rfl, hd, hw, fun p hp => ⟨by show 2 ≤ sizeLine; decide, fun p2 hp2 => ?_⟩⟩
            have t1 : (upd (upd H10 p (.tup [.int (lowN 0 d), .int (lowD 0 d)])) p2 (.tup [.int 0, .int 1])) p = some (.tup [.int 0, .int 1]) := by
              rw [upd_ne (ne_of_none upd_same hp2), upd_same, (low_zero d hd).1, (low_zero d hd).2]
            refine ⟨_, _, .tup (SqT.of t1) (.cons (.int _) (.cons (.int _) .nil)), .tup (SqT.of upd_same) (.cons (.int _) (.cons (.int _) .nil)), rfl, rfl, _, rfl, itePos (eqv2 0 1) ?_⟩
            refine ⟨_, rfl, _, rfl, d, d, rfl, hd, hw, fun p3 hp3 => ⟨by show 2 ≤ sizeLine; decide, fun p4 hp4 => ?_⟩⟩
            have s11 := ((same_new (o := .tup [.int (lowN 0 d), .int (lowD 0 d)]) hp).trans (same_new (o := .tup [.int 0, .int 1]) hp2)).trans ((same_new (o := .tup [.int (lowN d d), .int (lowD d d)]) hp3).trans (same_new (o := .tup [.int 1, .int 1]) hp4))
            generalize hG : upd (upd H10 p (.tup [.int (lowN 0 d), .int (lowD 0 d)])) p2 (.tup [.int 0, .int 1]) = H11 at hp3 hp4 s11 ⊢
            have t2 : (upd (upd H11 p3 (.tup [.int (lowN d d), .int (lowD d d)])) p4 (.tup [.int 1, .int 1])) p3 = some (.tup [.int 1, .int 1]) := by
              rw [upd_ne (ne_of_none upd_same hp4), upd_same, (low_self d hd).1, (low_self d hd).2]
            refine ⟨_, _, .tup (SqT.of t2) (.cons (.int _) (.cons (.int _) .nil)), .tup (SqT.of upd_same) (.cons (.int _) (.cons (.int _) .nil)), rfl, rfl, ?_⟩
            exact bl_true (eqv2 1 1) (q _ (hb9.trans (But.of (s10.trans s11))))
def spLaw (K : PySem.W.Frag) : Sp := fun vs H Q _ => ∃ (a : Addr) (ns : List Int), vs = [.ref a] ∧ SqL K H a (ns.map V.int) ∧ ns.length ≤ 63 ∧ ∀ H', Q (.bl true) H'
theorem ok_law (T : Tx K mg) : FnOk P w K mg base CX0 6 T.a_law T.f_law ["_law_script"] (spLaw K) := by
  have G_Lfolded : FnOk P w K mg base CX0 1 T.a_Lfolded T.f_Lfolded ["_law_script", "_law_many"] (spFold K) := ok_Lfolded T
  have G_Lbox : FnOk P w K mg base CX0 1 T.a_Lbox T.f_Lbox ["_law_cells", "_law_k"] (spBox K) := ok_Lbox T
  have G_Lright : FnOk P w K mg base CX0 5 T.a_Lright T.f_Lright ["_law_box_here"] spRight := ok_Lright T
  refine T.d_law.F.ok sc_law (fun vs H Q E h => ?_) (fun cdv A outer s H vs Q E hr h => ?_)
  · obtain ⟨a, ns, rfl, _⟩ := h
    rfl
  · obtain ⟨a, ns, rfl, hS, hl, q⟩ := h
    refine ⟨_, (pss_cons
    (ps_set (i := 1) sc_law.nd rfl (.inr rfl) (pe_call G_Lfolded (hr.mono (by decide)) (by rfl) T.d_Lfolded.g T.d_Lfolded.F.kp T.d_Lfolded.b .nil pass0 (pa_cons (pv 0) (pa_cons pe_int pa_nil))))
    (pss_one
    (ps_ret (pe_callB (cr_all rfl) (by rfl) T.z_all (by decide +kernel) (pa_cons (pe_lc (own := [("_law_k", 2)]) (g := (gName 2)) (tt := tYes) rfl sc_law.nd (pi_range1 (by rfl) T.z_range (pa_cons (pe_callB (call_max2 rfl) (by rfl) T.z_max (by decide +kernel) (pa_cons pe_int (pa_cons (pe_callB call_len_seq (by rfl) T.z_len (by decide +kernel) (pa_cons (pv 1) pa_nil)) pa_nil))) pa_nil)) (blkOk_by (own := [("_law_k", 2)]) (N := ["_law_script", "_law_cells", "_law_k"]) (sc := defScope s_law) (by decide +kernel)) (fun _ _ _ _ _ => (pg_name (i := 2) sc_law.nd rfl (.inl rfl) (.inr rfl))) (fun _ _ _ _ _ => pts_nil) (fun _ _ _ _ _ => (pe_call G_Lright (hr.mono (by decide)) (by rfl) T.d_Lright.g T.d_Lright.F.kp T.d_Lright.b .nil pass0 (pa_cons (pe_call G_Lbox (hr.mono (by decide)) (by rfl) T.d_Lbox.g T.d_Lbox.F.kp T.d_Lbox.b .nil pass0 (pa_cons (pv 1) (pa_cons (pv 2) pa_nil))) pa_nil)))) pa_nil))))), ?_⟩
    refine ⟨_, rfl, a, ns, 8, rfl, hS, hl, by decide, by decide, fun H1 c cs s1 nc hc hcl => ?_⟩
    refine ⟨_, rfl, c, _, rfl, .inl (SqL.of hc), 2, _, rfl, _, rfl, ?_, ?_, fun D hD => ?_⟩
    · rw [List.length_map]
      split <;> omega
    · rw [List.length_map]
      split <;> omega
    · rw [List.length_map]
      generalize hn : (if (cs.length : Int) > 2 then (cs.length : Int) else 2).toNat = n
      have hn10 : n ≤ 10 := by
        rw [← hn]
        split <;> omega
      refine lc_it walk_range (fun i H3 => H3 c = some (.lst (cs.map V.int)) ∧ H3 D = some (.lst ((List.replicate i true).map V.bl))) ⟨?_, upd_same⟩ (fun _ _ _ _ => trivial) (fun i x H3 H4 hi h hy => ?_) (fun H3 h => ?_)
      · rw [upd_ne (ne_of_none hc hD)]
        exact hc
      · obtain ⟨rfl, rfl⟩ := hy
        refine ⟨rfl, ?_⟩
        refine ⟨_, rfl, _, rfl, c, cs, i, by show [V.ref c, V.int (0 + (i : Int))] = _; rw [Int.zero_add], SqL.of h.1, by omega, fun p o np hB => ?_⟩
        refine ⟨p, o, rfl, upd_same, hB, fun H5 hb => ?_⟩
        have s3 := same_new (o := o) np
        refine ⟨_, hb _ _ (s3 _ _ h.2) (ne_of_none h.2 np), ?_, ?_, upd_same.trans ?_⟩
        · rw [List.length_map, List.length_replicate]
          exact Nat.lt_of_lt_of_le hi (Nat.le_trans hn10 (by decide))
        · rw [upd_ne (ne_of_none hc hD)]
          exact hb _ _ (s3 _ _ h.1) (ne_of_none h.1 np)
        · rw [List.replicate_succ', List.map_append]
          rfl
      · refine ⟨D, List.replicate n true, rfl, SqL.of h.2, ?_⟩
        exact bl_true (by simp) (q _)
end
theorem all_mk {l : PySem.W.OpenLaw} {w : World} {K : PySem.W.Frag} {h : Heap} {mg : Str → Option Value} {fa f0 f1 f2 f3 f4 f5 f6 f7 f8 f9 f10 : Addr} (X : K.In h) (G : h.Ns mainGlobals mg) (hfa : mg "law" = some (.ref fa))
    {od0 an0 : Option Addr} {sl0 : Array (Option Value)} {oc0 kV0 dc0 pm0 cd0 ct0 : Value}
    {od1 an1 : Option Addr} {sl1 : Array (Option Value)} {oc1 kV1 dc1 pm1 cd1 ct1 : Value}
    {od2 an2 : Option Addr} {sl2 : Array (Option Value)} {oc2 kV2 dc2 pm2 cd2 ct2 : Value}
    {od3 an3 : Option Addr} {sl3 : Array (Option Value)} {oc3 kV3 dc3 pm3 cd3 ct3 : Value}
    {od4 an4 : Option Addr} {sl4 : Array (Option Value)} {oc4 kV4 dc4 pm4 cd4 ct4 : Value}
    {od5 an5 : Option Addr} {sl5 : Array (Option Value)} {oc5 kV5 dc5 pm5 cd5 ct5 : Value}
    {od6 an6 : Option Addr} {sl6 : Array (Option Value)} {oc6 kV6 dc6 pm6 cd6 ct6 : Value}
    {od7 an7 : Option Addr} {sl7 : Array (Option Value)} {oc7 kV7 dc7 pm7 cd7 ct7 : Value}
    {od8 an8 : Option Addr} {sl8 : Array (Option Value)} {oc8 kV8 dc8 pm8 cd8 ct8 : Value}
    {od9 an9 : Option Addr} {sl9 : Array (Option Value)} {oc9 kV9 dc9 pm9 cd9 ct9 : Value}
    {od10 an10 : Option Addr} {sl10 : Array (Option Value)} {oc10 kV10 dc10 pm10 cd10 ct10 : Value}
    (a0 : PySem.W.nsIn K mainGlobals "common_divisor" = some (some (.ref f0))) (l0 : K.lookup f0 = some ⟨oc0, od0, .func (PySem.W.fnOf "common_divisor" "common_divisor" (defArgs s_common_divisor) (defBody s_common_divisor) (defScope s_common_divisor) .none kV0 dc0 pm0 an0 cd0 ct0), sl0⟩) (c0 : PySem.W.codeIn K cd0 "common_divisor" = true) (k0 : PySem.W.keepIn K (.ref f0) = true)
    (a1 : PySem.W.nsIn K mainGlobals "fraction_of" = some (some (.ref f1))) (l1 : K.lookup f1 = some ⟨oc1, od1, .func (PySem.W.fnOf "fraction_of" "fraction_of" (defArgs s_fraction_of) (defBody s_fraction_of) (defScope s_fraction_of) .none kV1 dc1 pm1 an1 cd1 ct1), sl1⟩) (c1 : PySem.W.codeIn K cd1 "fraction_of" = true) (k1 : PySem.W.keepIn K (.ref f1) = true)
    (a2 : PySem.W.nsIn K mainGlobals "compare_two" = some (some (.ref f2))) (l2 : K.lookup f2 = some ⟨oc2, od2, .func (PySem.W.fnOf "compare_two" "compare_two" (defArgs s_compare_two) (defBody s_compare_two) (defScope s_compare_two) .none kV2 dc2 pm2 an2 cd2 ct2), sl2⟩) (c2 : PySem.W.codeIn K cd2 "compare_two" = true) (k2 : PySem.W.keepIn K (.ref f2) = true)
    (a3 : PySem.W.nsIn K mainGlobals "_law_box" = some (some (.ref f3))) (l3 : K.lookup f3 = some ⟨oc3, od3, .func (PySem.W.fnOf "_law_box" "_law_box" (defArgs s_Lbox) (defBody s_Lbox) (defScope s_Lbox) .none kV3 dc3 pm3 an3 cd3 ct3), sl3⟩) (c3 : PySem.W.codeIn K cd3 "_law_box" = true) (k3 : PySem.W.keepIn K (.ref f3) = true)
    (a4 : PySem.W.nsIn K mainGlobals "_law_take" = some (some (.ref f4))) (l4 : K.lookup f4 = some ⟨oc4, od4, .func (PySem.W.fnOf "_law_take" "_law_take" (defArgs s_Ltake) (defBody s_Ltake) (defScope s_Ltake) .none kV4 dc4 pm4 an4 cd4 ct4), sl4⟩) (c4 : PySem.W.codeIn K cd4 "_law_take" = true) (k4 : PySem.W.keepIn K (.ref f4) = true)
    (a5 : PySem.W.nsIn K mainGlobals "_law_folded" = some (some (.ref f5))) (l5 : K.lookup f5 = some ⟨oc5, od5, .func (PySem.W.fnOf "_law_folded" "_law_folded" (defArgs s_Lfolded) (defBody s_Lfolded) (defScope s_Lfolded) .none kV5 dc5 pm5 an5 cd5 ct5), sl5⟩) (c5 : PySem.W.codeIn K cd5 "_law_folded" = true) (k5 : PySem.W.keepIn K (.ref f5) = true)
    (a6 : PySem.W.nsIn K mainGlobals "_law_same" = some (some (.ref f6))) (l6 : K.lookup f6 = some ⟨oc6, od6, .func (PySem.W.fnOf "_law_same" "_law_same" (defArgs s_Lsame) (defBody s_Lsame) (defScope s_Lsame) .none kV6 dc6 pm6 an6 cd6 ct6), sl6⟩) (c6 : PySem.W.codeIn K cd6 "_law_same" = true) (k6 : PySem.W.keepIn K (.ref f6) = true)
    (a7 : PySem.W.nsIn K mainGlobals "_law_number" = some (some (.ref f7))) (l7 : K.lookup f7 = some ⟨oc7, od7, .func (PySem.W.fnOf "_law_number" "_law_number" (defArgs s_Lnumber) (defBody s_Lnumber) (defScope s_Lnumber) .none kV7 dc7 pm7 an7 cd7 ct7), sl7⟩) (c7 : PySem.W.codeIn K cd7 "_law_number" = true) (k7 : PySem.W.keepIn K (.ref f7) = true)
    (a8 : PySem.W.nsIn K mainGlobals "_law_lowest" = some (some (.ref f8))) (l8 : K.lookup f8 = some ⟨oc8, od8, .func (PySem.W.fnOf "_law_lowest" "_law_lowest" (defArgs s_Llowest) (defBody s_Llowest) (defScope s_Llowest) .none kV8 dc8 pm8 an8 cd8 ct8), sl8⟩) (c8 : PySem.W.codeIn K cd8 "_law_lowest" = true) (k8 : PySem.W.keepIn K (.ref f8) = true)
    (a9 : PySem.W.nsIn K mainGlobals "_law_right" = some (some (.ref f9))) (l9 : K.lookup f9 = some ⟨oc9, od9, .func (PySem.W.fnOf "_law_right" "_law_right" (defArgs s_Lright) (defBody s_Lright) (defScope s_Lright) .none kV9 dc9 pm9 an9 cd9 ct9), sl9⟩) (c9 : PySem.W.codeIn K cd9 "_law_right" = true) (k9 : PySem.W.keepIn K (.ref f9) = true)
    (a10 : PySem.W.nsIn K mainGlobals "law" = some (some (.ref f10))) (l10 : K.lookup f10 = some ⟨oc10, od10, .func (PySem.W.fnOf "law" "law" (defArgs s_law) (defBody s_law) (defScope s_law) .none kV10 dc10 pm10 an10 cd10 ct10), sl10⟩) (c10 : PySem.W.codeIn K cd10 "law" = true) (k10 : PySem.W.keepIn K (.ref f10) = true)
    (z_abs : PySem.W.nsIn K mainGlobals "abs" = some none)
    (z_all : PySem.W.nsIn K mainGlobals "all" = some none)
    (z_bool : PySem.W.nsIn K mainGlobals "bool" = some none)
    (z_enumerate : PySem.W.nsIn K mainGlobals "enumerate" = some none)
    (z_int : PySem.W.nsIn K mainGlobals "int" = some none)
    (z_isinstance : PySem.W.nsIn K mainGlobals "isinstance" = some none)
    (z_len : PySem.W.nsIn K mainGlobals "len" = some none)
    (z_list : PySem.W.nsIn K mainGlobals "list" = some none)
    (z_max : PySem.W.nsIn K mainGlobals "max" = some none)
    (z_range : PySem.W.nsIn K mainGlobals "range" = some none)
    (z_str : PySem.W.nsIn K mainGlobals "str" = some none)
    (z_tuple : PySem.W.nsIn K mainGlobals "tuple" = some none)
    (z_zip : PySem.W.nsIn K mainGlobals "zip" = some none)
    : ∃ fd : FuncData, (∀ (s : Shared) (v : Value), BindsTo s fd ⟨[v], []⟩ [("_law_script", v)]) ∧ ∀ base : Heap, K.In base → base.Ns mainGlobals mg → FnOk l.prog w K mg base CX0 6 fa fd ["_law_script"] (spLaw K) := by
  have e := hfa.symm.trans (PySem.W.mg_of X G a10)
  cases e
  have F0 := fun_mk (st := s_common_divisor) l0 c0 k0
  have b0 := F0.binds (ps := ["one", "other"]) fun _ _ _ _ _ _ us hl => match us, hl with | [_, _], _ => rfl
  have F1 := fun_mk (st := s_fraction_of) l1 c1 k1
  have b1 := F1.binds (ps := ["n", "d"]) fun _ _ _ _ _ _ us hl => match us, hl with | [_, _], _ => rfl
  have F2 := fun_mk (st := s_compare_two) l2 c2 k2
  have b2 := F2.binds (ps := ["one", "other"]) fun _ _ _ _ _ _ us hl => match us, hl with | [_, _], _ => rfl
  have F3 := fun_mk (st := s_Lbox) l3 c3 k3
  have b3 := F3.binds (ps := ["_law_cells", "_law_k"]) fun _ _ _ _ _ _ us hl => match us, hl with | [_, _], _ => rfl
  have F4 := fun_mk (st := s_Ltake) l4 c4 k4
  have b4 := F4.binds (ps := ["_law_box_here", "_law_many"]) fun _ _ _ _ _ _ us hl => match us, hl with | [_, _], _ => rfl
  have F5 := fun_mk (st := s_Lfolded) l5 c5 k5
  have b5 := F5.binds (ps := ["_law_script", "_law_many"]) fun _ _ _ _ _ _ us hl => match us, hl with | [_, _], _ => rfl
  have F6 := fun_mk (st := s_Lsame) l6 c6 k6
  have b6 := F6.binds (ps := ["_law_found", "_law_due"]) fun _ _ _ _ _ _ us hl => match us, hl with | [_, _], _ => rfl
  have F7 := fun_mk (st := s_Lnumber) l7 c7 k7
  have b7 := F7.binds (ps := ["_law_box_here"]) fun _ _ _ _ _ _ us hl => match us, hl with | [_], _ => rfl
  have F8 := fun_mk (st := s_Llowest) l8 c8 k8
  have b8 := F8.binds (ps := ["_law_n", "_law_d"]) fun _ _ _ _ _ _ us hl => match us, hl with | [_, _], _ => rfl
  have F9 := fun_mk (st := s_Lright) l9 c9 k9
  have b9 := F9.binds (ps := ["_law_box_here"]) fun _ _ _ _ _ _ us hl => match us, hl with | [_], _ => rfl
  have F10 := fun_mk (st := s_law) l10 c10 k10
  have b10 := F10.binds (ps := ["_law_script"]) fun _ _ _ _ _ _ us hl => match us, hl with | [_], _ => rfl
  let T : Tx K mg := {
    a_common_divisor := f0, f_common_divisor := _, d_common_divisor := ⟨F0, PySem.W.mg_of X G a0, b0⟩,
    a_fraction_of := f1, f_fraction_of := _, d_fraction_of := ⟨F1, PySem.W.mg_of X G a1, b1⟩,
    a_compare_two := f2, f_compare_two := _, d_compare_two := ⟨F2, PySem.W.mg_of X G a2, b2⟩,
    a_Lbox := f3, f_Lbox := _, d_Lbox := ⟨F3, PySem.W.mg_of X G a3, b3⟩,
    a_Ltake := f4, f_Ltake := _, d_Ltake := ⟨F4, PySem.W.mg_of X G a4, b4⟩,
    a_Lfolded := f5, f_Lfolded := _, d_Lfolded := ⟨F5, PySem.W.mg_of X G a5, b5⟩,
    a_Lsame := f6, f_Lsame := _, d_Lsame := ⟨F6, PySem.W.mg_of X G a6, b6⟩,
    a_Lnumber := f7, f_Lnumber := _, d_Lnumber := ⟨F7, PySem.W.mg_of X G a7, b7⟩,
    a_Llowest := f8, f_Llowest := _, d_Llowest := ⟨F8, PySem.W.mg_of X G a8, b8⟩,
    a_Lright := f9, f_Lright := _, d_Lright := ⟨F9, PySem.W.mg_of X G a9, b9⟩,
    a_law := fa, f_law := _, d_law := ⟨F10, PySem.W.mg_of X G a10, b10⟩,
    z_abs := PySem.W.mg_none_of X G z_abs, z_all := PySem.W.mg_none_of X G z_all, z_bool := PySem.W.mg_none_of X G z_bool, z_enumerate := PySem.W.mg_none_of X G z_enumerate, z_int := PySem.W.mg_none_of X G z_int, z_isinstance := PySem.W.mg_none_of X G z_isinstance, z_len := PySem.W.mg_none_of X G z_len, z_list := PySem.W.mg_none_of X G z_list, z_max := PySem.W.mg_none_of X G z_max, z_range := PySem.W.mg_none_of X G z_range, z_str := PySem.W.mg_none_of X G z_str, z_tuple := PySem.W.mg_none_of X G z_tuple, z_zip := PySem.W.mg_none_of X G z_zip }
  exact ⟨_, fun s v => .of_eq rfl, fun base _ _ => ok_law T⟩
end K02
open PySem PySem.W PyProof.Rows
set_option maxHeartbeats 0 in
theorem PySem.Challenge.cw_thinskin_k02_fractions_holds : PySem.Challenge.rw_thinskin_k02_fractions.Holds := by
  w_on; o_law; k_head; (case hw => w_witness2)
  k_fill
  refine L2.walk_of (l := PySem.Challenge.rw_thinskin_k02_fractions) (n := 63) (k := 6) (x := "_law_script") (CX := fun _ => L2.CX0) (sp := fun w => K02.spLaw _) rfl (by decide) rfl ⟨rfl, by decide, by decide⟩ (fun w h Y => PySem.W.kIn_of Y) ?F (fun _ _ a ns hl _ hS => ⟨a, ns, rfl, hS, hl, fun _ => rfl⟩) (fun _ _ _ _ _ h => h)
  case F =>
    intro w mg fa h KX G hmg
    refine' K02.all_mk KX G hmg ?a0 ?l0 ?c0 ?k0 ?a1 ?l1 ?c1 ?k1 ?a2 ?l2 ?c2 ?k2 ?a3 ?l3 ?c3 ?k3 ?a4 ?l4 ?c4 ?k4 ?a5 ?l5 ?c5 ?k5 ?a6 ?l6 ?c6 ?k6 ?a7 ?l7 ?c7 ?k7 ?a8 ?l8 ?c8 ?k8 ?a9 ?l9 ?c9 ?k9 ?a10 ?l10 ?c10 ?k10 ?z_abs ?z_all ?z_bool ?z_enumerate ?z_int ?z_isinstance ?z_len ?z_list ?z_max ?z_range ?z_str ?z_tuple ?z_zip
    (case a0 => k_is); (case l0 => k_is); (case c0 => k_is); (case k0 => k_is); (case a1 => k_is); (case l1 => k_is); (case c1 => k_is); (case k1 => k_is); (case a2 => k_is); (case l2 => k_is); (case c2 => k_is); (case k2 => k_is); (case a3 => k_is); (case l3 => k_is); (case c3 => k_is); (case k3 => k_is); (case a4 => k_is); (case l4 => k_is); (case c4 => k_is); (case k4 => k_is); (case a5 => k_is); (case l5 => k_is); (case c5 => k_is); (case k5 => k_is); (case a6 => k_is); (case l6 => k_is); (case c6 => k_is); (case k6 => k_is); (case a7 => k_is); (case l7 => k_is); (case c7 => k_is); (case k7 => k_is); (case a8 => k_is); (case l8 => k_is); (case c8 => k_is); (case k8 => k_is); (case a9 => k_is); (case l9 => k_is); (case c9 => k_is); (case k9 => k_is); (case a10 => k_is); (case l10 => k_is); (case c10 => k_is); (case k10 => k_is); (case z_abs => k_is); (case z_all => k_is); (case z_bool => k_is); (case z_enumerate => k_is); (case z_int => k_is); (case z_isinstance => k_is); (case z_len => k_is); (case z_list => k_is); (case z_max => k_is); (case z_range => k_is); (case z_str => k_is); (case z_tuple => k_is); (case z_zip => k_is)

