import PyProof.Rows.All
import Wide.All
import OpenK.AllK
import Wide.FinOn
import HandS.ForMost
import HandS.Zip
import HandS.Walk
import HandS.Conv
import KE.KDictZip
import KE.GoesEnum
import HandS.Ends
import HandS.Words
import HandS.RaiseMore
import PyProof.ReprRoads
import HandS.Wide
import HandS.IsInst
import HandS.Style
import HandS.NoneIn
import HandS.More
import PyProof.ReprLen
import PyProof.FitsInt
import PySem.Challenge.RW_thinskin_k32_prices_at_places
set_option Elab.async false
set_option linter.all false
set_option maxRecDepth 100000
set_option maxHeartbeats 4000000
/-! ### list(zip(a, b)) of two tuples: a new list of new pairs -/
namespace LZ
open PySem PySem.Spec PyProof.Rows L2
section
variable {prog : Program} {w : World} {A : Around} {E : Value → Shared → Prop} {s : Shared} {z TI TO T i1 i2 l1 l2 : Addr}
/-- zip's turn while the pair that it gave last is held by someone: it makes a new one -/
theorem held_raw {f : Bool} {oT : Obj} {k : Nat} {xs ys : Array Value} {x y : Value} {Q : Value → Shared → Prop} (D : ZipApart z TI TO i1 i2 l1 l2) (hz : IsZipHeld s.heap z TI TO T f) (hT : s.heap.get? T = some oT) (hTI : IsPair s.heap TI (.ref i1) (.ref i2))
    (h1 : s.heap.IsTupleIter i1 l1 k) (h2 : s.heap.IsTupleIter i2 l2 k) (t1 : s.heap.IsTuple l1 xs) (t2 : s.heap.IsTuple l2 ys) (hx : xs[k]? = some x) (hy : ys[k]? = some y)
    (hQ : ∀ h', IsZipHeld h' z TI TO T true → h'.IsTupleIter i1 l1 (k + 1) → h'.IsTupleIter i2 l2 (k + 1) → IsPair h' s.heap.objs.size x y → h'.objs.size = s.heap.objs.size + 1 → (∀ c o, c ≠ z → c ≠ i1 → c ≠ i2 → s.heap.get? c = some o → h'.get? c = some o) → Q (.ref s.heap.objs.size) { s with heap := h' }) :
    wpAny (model prog w) A (Builtin.«zip.__next__» ⟨[.ref z], []⟩) (fun fin s' => ∃ v, fin = .done (.ret v) ∧ Q v s') E s := by
  show wpAny _ _ (field (.ref z) 2 >>= _) _ _ _
  apply wpAny_bind; apply wpAny_field hz rfl (x := .bool false) rfl
  show wpAny _ _ (field (.ref z) 3 >>= _) _ _ _
  apply wpAny_bind; apply wpAny_field hz rfl (x := .ref TI) rfl
  apply wpAny_bind; apply wpAny_seqItems hTI rfl
  show wpAny _ _ (Builtin.SmallTypes.ownedTupleIsFree (.ref z) >>= _) _ _ _
  apply wpAny_bind; refine wpAny_tupleHeld_zip hz hT fun ha hza sa => ?_
  simp only [Bool.false_eq_true, if_false]
  apply wpAny_bind
  rw [← Array.forIn_toList]
  simp only [List.forIn_cons, List.forIn_nil]
  apply wpAny_bind; apply wpAny_bind; apply wpAny_holding
  show wpAny _ _ (Builtin.SmallTypes.nextOf (.ref i1) >>= _) _ _ _
  apply wpAny_bind
  refine RZ.nextOf_tuple_item (s := { s with heap := ha }) (h1.extBut sa.extBut D.i1z) (t1.extBut sa.extBut D.l1z) hx fun hb n1 sb => wpAny_pure (wpAny_pure ?_)
  apply wpAny_bind; apply wpAny_bind; apply wpAny_holding
  show wpAny _ _ (Builtin.SmallTypes.nextOf (.ref i2) >>= _) _ _ _
  apply wpAny_bind
  refine RZ.nextOf_tuple_item (s := { s with heap := hb }) ((h2.extBut sa.extBut D.i2z).extBut sb.extBut D.i12.symm) ((t2.extBut sa.extBut D.l2z).extBut sb.extBut D.l2i1) hy fun hc n2 sc => wpAny_pure (wpAny_pure (wpAny_pure ?_))
  show wpAny _ _ (newTuple [x, y] >>= _) _ _ _
  apply wpAny_bind; refine wpAny_newTuple ?_
  have sz : hc.objs.size = s.heap.objs.size := by rw [sc.1, sb.1, sa.1]
  have kp : ∀ c o, c ≠ z → c ≠ i1 → c ≠ i2 → s.heap.get? c = some o → hc.get? c = some o := fun c o c1 c2 c3 e => sc.extBut _ _ c3 (sb.extBut _ _ c2 (sa.extBut _ _ c1 e))
  have zc : IsZipHeld hc z TI TO T true := sc.extBut _ _ D.i2z.symm (sb.extBut _ _ D.i1z.symm hza)
  have n1c := n1.extBut sc.extBut D.i12
  have pc : IsPair (hc.push { cls := .type "tuple", data := .seq #[x, y] }) hc.objs.size x y := Heap.get?_push_size _ rfl
  have zs : (hc.push { cls := .type "tuple", data := .seq #[x, y] }).objs.size = hc.objs.size + 1 := Heap.size_push ..
  apply wpAny_pure
  refine ⟨_, rfl, ?_⟩
  show Q (.ref hc.objs.size) _
  rw [sz] at pc zs ⊢
  exact hQ _ (Heap.get?_push_of_some _ zc) (n1c.at fun o e => Heap.get?_push_of_some _ e) (n2.at fun o e => Heap.get?_push_of_some _ e) pc zs fun c o c1 c2 c3 e => Heap.get?_push_of_some _ (kp c o c1 c2 c3 e)
theorem held_stop {f : Bool} {oT : Obj} {k : Nat} {xs ys : Array Value} {Q : Fin → Shared → Prop} (hh : A.handled = none) (D : ZipApart z TI TO i1 i2 l1 l2) (hz : IsZipHeld s.heap z TI TO T f) (hT : s.heap.get? T = some oT) (hTI : IsPair s.heap TI (.ref i1) (.ref i2))
    (h1 : s.heap.IsTupleIter i1 l1 k) (h2 : s.heap.IsTupleIter i2 l2 k) (t1 : s.heap.IsTuple l1 xs) (t2 : s.heap.IsTuple l2 ys) (hend : xs[k]? = none ∨ ys[k]? = none)
    (hE : ∀ h' e, (∀ c o, c ≠ z → c ≠ i1 → c ≠ i2 → s.heap.get? c = some o → h'.get? c = some o) → (∃ o, h'.get? e = some o ∧ o.cls = .type "StopIteration") → E (.ref e) { s with heap := h' }) :
    wpAny (model prog w) A (Builtin.«zip.__next__» ⟨[.ref z], []⟩) Q E s := by
  show wpAny _ _ (field (.ref z) 2 >>= _) _ _ _
  apply wpAny_bind; apply wpAny_field hz rfl (x := .bool false) rfl
  show wpAny _ _ (field (.ref z) 3 >>= _) _ _ _
  apply wpAny_bind; apply wpAny_field hz rfl (x := .ref TI) rfl
  apply wpAny_bind; apply wpAny_seqItems hTI rfl
  show wpAny _ _ (Builtin.SmallTypes.ownedTupleIsFree (.ref z) >>= _) _ _ _
  apply wpAny_bind; refine wpAny_tupleHeld_zip hz hT fun ha hza sa => ?_
  simp only [Bool.false_eq_true, if_false]
  apply wpAny_bind
  rw [← Array.forIn_toList]
  simp only [List.forIn_cons, List.forIn_nil]
  apply wpAny_bind; apply wpAny_bind; apply wpAny_holding
  show wpAny _ _ (Builtin.SmallTypes.nextOf (.ref i1) >>= _) _ _ _
  apply wpAny_bind
  cases hx : xs[k]? with
  | none => exact RZ.nextOf_tuple_end (s := { s with heap := ha }) hh (h1.extBut sa.extBut D.i1z) (t1.extBut sa.extBut D.l1z) hx fun hb e sb he => hE hb e (fun c o c1 c2 _ q => sb _ _ c2 (sa.extBut _ _ c1 q)) he
  | some x =>
    have hy : ys[k]? = none := by
      rcases hend with h | h
      · rw [hx] at h
        cases h
      · exact h
    refine RZ.nextOf_tuple_item (s := { s with heap := ha }) (h1.extBut sa.extBut D.i1z) (t1.extBut sa.extBut D.l1z) hx fun hb n1 sb => wpAny_pure (wpAny_pure ?_)
    apply wpAny_bind; apply wpAny_bind; apply wpAny_holding
    show wpAny _ _ (Builtin.SmallTypes.nextOf (.ref i2) >>= _) _ _ _
    apply wpAny_bind
    exact RZ.nextOf_tuple_end (s := { s with heap := hb }) hh ((h2.extBut sa.extBut D.i2z).extBut sb.extBut D.i12.symm) ((t2.extBut sa.extBut D.l2z).extBut sb.extBut D.l2i1) hy fun hc e sc he => hE hc e (fun c o c1 c2 c3 q => sc _ _ c3 (sb.extBut _ _ c2 (sa.extBut _ _ c1 q))) he
theorem held_item {f : Bool} {oT : Obj} {k : Nat} {xs ys : Array Value} {x y : Value} {Q : Option Value → Shared → Prop} (D : ZipApart z TI TO i1 i2 l1 l2) (hz : IsZipHeld s.heap z TI TO T f) (hT : s.heap.get? T = some oT) (hTI : IsPair s.heap TI (.ref i1) (.ref i2))
    (h1 : s.heap.IsTupleIter i1 l1 k) (h2 : s.heap.IsTupleIter i2 l2 k) (t1 : s.heap.IsTuple l1 xs) (t2 : s.heap.IsTuple l2 ys) (hx : xs[k]? = some x) (hy : ys[k]? = some y)
    (hQ : ∀ h', IsZipHeld h' z TI TO T true → h'.IsTupleIter i1 l1 (k + 1) → h'.IsTupleIter i2 l2 (k + 1) → IsPair h' s.heap.objs.size x y → h'.objs.size = s.heap.objs.size + 1 → (∀ c o, c ≠ z → c ≠ i1 → c ≠ i2 → s.heap.get? c = some o → h'.get? c = some o) → Q (some (.ref s.heap.objs.size)) { s with heap := h' }) :
    wpAny (model prog w) A (pyNext (.ref z)) Q E s := by
  have ty : s.TypeIs (.ref z) "zip" := ⟨_, hz, rfl⟩
  unfold pyNext
  apply wpAny_bind; apply wpAny_attempt
  refine wpAny_callSpecial?_slot (name := Str.ofString "__next__") ty F.slot_zip_next (wpAny_call_entry F.slot_zip_next ty F.entry_zip_next ?_ (F.args_zip_next_1 _))
  exact held_raw D hz hT hTI h1 h2 t1 t2 hx hy fun h' a1 a2 a3 a4 a5 a6 => wpAny_pure (hQ h' a1 a2 a3 a4 a5 a6)
theorem held_end {f : Bool} {oT : Obj} {k : Nat} {xs ys : Array Value} {Q : Option Value → Shared → Prop} (hh : A.handled = none) (D : ZipApart z TI TO i1 i2 l1 l2) (hz : IsZipHeld s.heap z TI TO T f) (hT : s.heap.get? T = some oT) (hTI : IsPair s.heap TI (.ref i1) (.ref i2))
    (h1 : s.heap.IsTupleIter i1 l1 k) (h2 : s.heap.IsTupleIter i2 l2 k) (t1 : s.heap.IsTuple l1 xs) (t2 : s.heap.IsTuple l2 ys) (hend : xs[k]? = none ∨ ys[k]? = none)
    (hQ : ∀ h', (∀ c o, c ≠ z → c ≠ i1 → c ≠ i2 → s.heap.get? c = some o → h'.get? c = some o) → Q none { s with heap := h' }) : wpAny (model prog w) A (pyNext (.ref z)) Q E s := by
  have ty : s.TypeIs (.ref z) "zip" := ⟨_, hz, rfl⟩
  unfold pyNext
  apply wpAny_bind; apply wpAny_attempt
  refine wpAny_callSpecial?_slot (name := Str.ofString "__next__") ty F.slot_zip_next (wpAny_call_entry F.slot_zip_next ty F.entry_zip_next ?_ (F.args_zip_next_1 _))
  refine held_stop (A := A.in1) hh D hz hT hTI h1 h2 t1 t2 hend fun h' e kp he => ?_
  obtain ⟨o, ho, hc⟩ := he
  apply wpAny_bind
  refine wpAny_isInstance (T := "StopIteration") (b := true) ⟨o, ho, hc⟩ isSubtype_stop ?_
  exact wpAny_pure (hQ _ kp)
/-- zip with k pairs given, all of them held -/
structure St (h : Heap) (z TI TO i1 i2 l1 l2 S : Addr) (xs ys : Array Value) (k : Nat) : Prop where
  pr : IsPair h TI (.ref i1) (.ref i2)
  ow : ∃ a b, IsPair h TO a b
  h1 : h.IsTupleIter i1 l1 k
  h2 : h.IsTupleIter i2 l2 k
  t1 : h.IsTuple l1 xs
  t2 : h.IsTuple l2 ys
  zp : IsZip h z TI TO .none ∨ ∃ T f oT, IsZipHeld h z TI TO T f ∧ h.get? T = some oT ∧ T ≠ z ∧ T ≠ TO ∧ T ≠ i1 ∧ T ≠ i2 ∧ T ≠ S
theorem St.keep {h h' : Heap} {S : Addr} {xs ys : Array Value} {k : Nat} (st : St h z TI TO i1 i2 l1 l2 S xs ys k) (kp : ∀ b o, b ≠ S → h.get? b = some o → h'.get? b = some o) (ns : z ≠ S ∧ TI ≠ S ∧ TO ≠ S ∧ i1 ≠ S ∧ i2 ≠ S ∧ l1 ≠ S ∧ l2 ≠ S) : St h' z TI TO i1 i2 l1 l2 S xs ys k := by
  obtain ⟨nz, nTI, nTO, n1, n2, m1, m2⟩ := ns
  obtain ⟨pr, ⟨a, b, ow⟩, h1, h2, t1, t2, zp⟩ := st
  refine ⟨kp _ _ nTI pr, ⟨a, b, kp _ _ nTO ow⟩, h1.at fun o e => kp _ o n1 e, h2.at fun o e => kp _ o n2 e, t1.at fun o e => kp _ o m1 e, t2.at fun o e => kp _ o m2 e, ?_⟩
  rcases zp with q | ⟨T, f, oT, q, hT, a1, a2, a3, a4, a5⟩
  · exact .inl (kp _ _ nz q)
  · exact .inr ⟨T, f, oT, kp _ _ nz q, kp _ _ a5 hT, a1, a2, a3, a4, a5⟩
theorem St.item {S : Addr} {xs ys : Array Value} {k : Nat} {x y : Value} {Q : Option Value → Shared → Prop} (D : ZipApart z TI TO i1 i2 l1 l2) (st : St s.heap z TI TO i1 i2 l1 l2 S xs ys k) (hS : S < s.heap.objs.size) (hx : xs[k]? = some x) (hy : ys[k]? = some y)
    (hQ : ∀ h', St h' z TI TO i1 i2 l1 l2 S xs ys (k + 1) → IsPair h' s.heap.objs.size x y → h'.objs.size = s.heap.objs.size + 1 → (∀ c o, c ≠ z → c ≠ TO → c ≠ i1 → c ≠ i2 → s.heap.get? c = some o → h'.get? c = some o) → Q (some (.ref s.heap.objs.size)) { s with heap := h' }) :
    wpAny (model prog w) A (pyNext (.ref z)) Q E s := by
  obtain ⟨pr, ⟨a, b, ow⟩, h1, h2, t1, t2, zp⟩ := st
  have up : ∀ {c o}, s.heap.get? c = some o → s.heap.objs.size ≠ c := fun e => Nat.ne_of_gt (Heap.lt_size e)
  have u1 : s.heap.objs.size ≠ i1 := by
    obtain ⟨o, e, _⟩ := id h1
    exact up e
  have u2 : s.heap.objs.size ≠ i2 := by
    obtain ⟨o, e, _⟩ := id h2
    exact up e
  rcases zp with q | ⟨T, f, oT, q, hT, a1, a2, a3, a4, a5⟩
  · refine RZ.pyNext_zipT_item D q pr ow h1 h2 t1 t2 hx hy fun h' zq TOq g1 g2 hp hs kp => ?_
    exact hQ h' ⟨kp _ _ D.TIz D.TITO D.TIi1 D.TIi2 pr, ⟨_, _, TOq⟩, g1, g2, t1.at fun o e => kp _ o D.l1z D.l1TO D.l1i1 D.l1i2 e, t2.at fun o e => kp _ o D.l2z D.l2TO D.l2i1 D.l2i2 e, .inr ⟨_, false, _, zq, hp, up q, up ow, u1, u2, Nat.ne_of_gt hS⟩⟩ hp hs kp
  · refine held_item D q hT pr h1 h2 t1 t2 hx hy fun h' zq g1 g2 hp hs kp => ?_
    exact hQ h' ⟨kp _ _ D.TIz D.TIi1 D.TIi2 pr, ⟨_, _, kp _ _ D.TOz D.TOi1 D.TOi2 ow⟩, g1, g2, t1.at fun o e => kp _ o D.l1z D.l1i1 D.l1i2 e, t2.at fun o e => kp _ o D.l2z D.l2i1 D.l2i2 e, .inr ⟨T, true, oT, zq, kp _ _ a1 a3 a4 hT, a1, a2, a3, a4, a5⟩⟩ hp hs (fun c o c1 _ c3 c4 e => kp c o c1 c3 c4 e)
theorem St.done {S : Addr} {xs ys : Array Value} {k : Nat} {Q : Option Value → Shared → Prop} (hh : A.handled = none) (D : ZipApart z TI TO i1 i2 l1 l2) (st : St s.heap z TI TO i1 i2 l1 l2 S xs ys k) (hend : xs[k]? = none ∨ ys[k]? = none)
    (hQ : ∀ h', (∀ c o, c ≠ z → c ≠ TO → c ≠ i1 → c ≠ i2 → s.heap.get? c = some o → h'.get? c = some o) → Q none { s with heap := h' }) : wpAny (model prog w) A (pyNext (.ref z)) Q E s := by
  obtain ⟨pr, ⟨a, b, ow⟩, h1, h2, t1, t2, zp⟩ := st
  rcases zp with q | ⟨T, f, oT, q, hT, _⟩
  · exact RZ.pyNext_zipT_end hh D q pr ow h1 h2 t1 t2 hend hQ
  · exact held_end hh D q hT pr h1 h2 t1 t2 hend fun h' kp => hQ h' fun c o c1 _ c3 c4 e => kp c o c1 c3 c4 e
/-- the pairs that were made, each above lo -/
structure Made (xs ys : Array Value) (lo : Addr) (h : Heap) (as : List Addr) : Prop where
  rise : as.Pairwise (· < ·)
  above : ∀ a ∈ as, lo < a
  pairs : ∀ (j : Nat) (a : Addr), as[j]? = some a → ∃ x y, xs[j]? = some x ∧ ys[j]? = some y ∧ IsPair h a x y
theorem Made.there {xs ys : Array Value} {lo : Addr} {h : Heap} {as : List Addr} (g : Made xs ys lo h as) {a : Addr} (ha : a ∈ as) : a < h.objs.size := by
  obtain ⟨j, hj⟩ := List.mem_iff_getElem?.mp ha
  obtain ⟨_, _, _, _, e⟩ := g.pairs j a hj
  exact Heap.lt_size e
end
section
variable {prog : Program} {w : World} {A : Around} {s : Shared} {R : Result → Shared → Prop} {z TI TO i1 i2 l1 l2 S lo : Addr} {xs ys : Array Value}
theorem loop (hh : A.handled = none) (D : ZipApart z TI TO i1 i2 l1 l2) (ns : z ≠ S ∧ TI ≠ S ∧ TO ≠ S ∧ i1 ≠ S ∧ i2 ≠ S ∧ l1 ≠ S ∧ l2 ≠ S) (hlo : z ≤ lo ∧ TI ≤ lo ∧ TO ≤ lo ∧ i1 ≤ lo ∧ i2 ≤ lo ∧ S ≤ lo) (hsz : xs.size = ys.size) (hn : xs.size ≤ sizeLine) (res : Value) {h0 : Heap}
    (hR : ∀ h' tk acc c as, (∀ b o, b ≠ S → b ≠ z → b ≠ TO → b ≠ i1 → b ≠ i2 → h0.get? b = some o → h'.get? b = some o) → h'.get? S = some { cls := .type "list", dict := none, data := .seq acc c, slots := #[] } → as.length = xs.size → Made xs ys lo h' as →
      acc.toList = as.map Value.ref → R (.ok (.ret res)) { s with heap := h', toks := tk }) :
    ∀ (m k : Nat) (h : Heap) (tk c : Nat) (acc : Array Value) (as : List Addr), xs.size - k = m → k ≤ xs.size → St h z TI TO i1 i2 l1 l2 S xs ys k → (∀ b o, b ≠ S → b ≠ z → b ≠ TO → b ≠ i1 → b ≠ i2 → h0.get? b = some o → h.get? b = some o) →
      h.get? S = some { cls := .type "list", dict := none, data := .seq acc c, slots := #[] } → acc.toList = as.map Value.ref → as.length = k → Made xs ys lo h as → lo < h.objs.size →
      codeAny (model prog w) A (.builtin "list.extend.loop" ⟨[.ref S, .ref z, res], []⟩) R { s with heap := h, toks := tk } := by
  obtain ⟨nz, nTI, nTO, n1, n2, m1, m2⟩ := ns
  obtain ⟨oz, oTI, oTO, o1, o2, oS⟩ := hlo
  have hi : ∀ {c : Addr}, lo < c → c ≠ z ∧ c ≠ TO ∧ c ≠ i1 ∧ c ≠ i2 ∧ c ≠ S := fun {c} q =>
    ⟨Nat.ne_of_gt (Nat.lt_of_le_of_lt oz q), Nat.ne_of_gt (Nat.lt_of_le_of_lt oTO q), Nat.ne_of_gt (Nat.lt_of_le_of_lt o1 q), Nat.ne_of_gt (Nat.lt_of_le_of_lt o2 q), Nat.ne_of_gt (Nat.lt_of_le_of_lt oS q)⟩
  intro m
  induction m with
  | zero =>
    intro k h tk c acc as hm hk st kp hS ha hal hG hl
    have e : k = xs.size := by omega
    refine codeAny_builtin PySem.F.entry_extend_loop ?_
    rw [Around.under_plainId PySem.F.plain_extend_loop _]
    show wpAny _ A.in1 (pyNext (.ref z) >>= _) _ _ _
    apply wpAny_bind
    refine St.done (s := { s with heap := h, toks := tk }) (A := A.in1) hh D st (.inl (by simp [e])) fun h' k2 => wpAny_pure ?_
    refine hR h' tk acc c as (fun b o a1 a2 a3 a4 a5 q => k2 b o a2 a3 a4 a5 (kp b o a1 a2 a3 a4 a5 q)) (k2 S _ nz.symm nTO.symm n1.symm n2.symm hS) (by omega) ⟨hG.rise, hG.above, fun j a hj => ?_⟩ ha
    obtain ⟨x, y, e1, e2, e3⟩ := hG.pairs j a hj
    obtain ⟨b1, b2, b3, b4, _⟩ := hi (hG.above a (List.mem_of_getElem? hj))
    exact ⟨x, y, e1, e2, k2 a _ b1 b2 b3 b4 e3⟩
  | succ m ih =>
    intro k h tk c acc as hm hk st kp hS ha hal hG hl
    have lt : k < xs.size := by omega
    have lt2 : k < ys.size := by omega
    have hx : xs[k]? = some xs[k] := by simp [lt]
    have hy : ys[k]? = some ys[k] := by simp [lt2]
    have sz : acc.size = k := by rw [← Array.length_toList, ha, List.length_map, hal]
    refine codeAny_builtin PySem.F.entry_extend_loop ?_
    rw [Around.under_plainId PySem.F.plain_extend_loop _]
    show wpAny _ A.in1 (pyNext (.ref z) >>= _) _ _ _
    apply wpAny_bind
    refine St.item (s := { s with heap := h, toks := tk }) D st (Heap.lt_size hS) hx hy fun h' st' hp hs k2 => ?_
    dsimp only at hp hs k2 ⊢
    have hS' := k2 S _ nz.symm nTO.symm n1.symm n2.symm hS
    have up : ∀ b o, b ≠ S → h'.get? b = some o → (h'.update S (Obj.mapSeq (·.push (Value.ref h.objs.size)))).get? b = some o := fun b o nb q => (Heap.get?_update_other _ _ (Ne.symm nb)).trans q
    have lS : S < h.objs.size := Heap.lt_size hS
    show wpAny _ A.in1 (updateSeq S (·.push (Value.ref h.objs.size)) >>= _) _ _ _
    apply wpAny_bind
    refine wpAny_updateSeq hS' rfl (wpAny_pure ⟨plainId_quiet PySem.F.plain_extend_loop _, ?_⟩) (by rw [sz]; omega) (by show (acc.push (Value.ref h.objs.size)).size ≤ sizeLine + 1; rw [Array.size_push, sz]; omega)
    refine ih (k + 1) _ tk _ (acc.push (Value.ref h.objs.size)) (as ++ [h.objs.size]) (by omega) lt (st'.keep up ⟨nz, nTI, nTO, n1, n2, m1, m2⟩) (fun b o a1 a2 a3 a4 a5 q => up b o a1 (k2 b o a2 a3 a4 a5 (kp b o a1 a2 a3 a4 a5 q))) (Heap.get?_update_self _ hS' rfl) (by rw [Array.toList_push, ha, List.map_append]; rfl) (by rw [List.length_append, hal]; rfl) ⟨?_, ?_, ?_⟩ ?_
    · refine List.pairwise_append.mpr ⟨hG.rise, List.pairwise_singleton _ _, fun a ha b hb => ?_⟩
      rw [List.mem_singleton.mp hb]
      exact hG.there ha
    · intro a ha
      rcases List.mem_append.mp ha with q | q
      · exact hG.above a q
      · rw [List.mem_singleton.mp q]
        exact hl
    · intro j b hj
      rcases Nat.lt_trichotomy j as.length with q | q | q
      · rw [List.getElem?_append_left q] at hj
        obtain ⟨x, y, e1, e2, e3⟩ := hG.pairs j b hj
        obtain ⟨b1, b2, b3, b4, b5⟩ := hi (hG.above b (List.mem_of_getElem? hj))
        exact ⟨x, y, e1, e2, up b _ b5 (k2 b _ b1 b2 b3 b4 e3)⟩
      · subst q
        have hb : h.objs.size = b := by simpa using hj
        subst hb
        exact ⟨_, _, by rw [hal]; exact hx, by rw [hal]; exact hy, up _ _ (Nat.ne_of_gt lS) hp⟩
      · have : (as ++ [h.objs.size])[j]? = none := List.getElem?_eq_none (by rw [List.length_append, List.length_singleton]; omega)
        rw [this] at hj
        cases hj
    · have e := up _ _ (Nat.ne_of_gt lS) hp
      exact Nat.lt_trans hl (Heap.lt_size e)
end
theorem zip_no_len : typeLookup (.type "zip") "__len__" = pure none := am_miss_of_fast (by decide +kernel)
theorem zip_no_hint : typeLookup (.type "zip") "__length_hint__" = pure none := am_miss_of_fast (by decide +kernel)
section
variable {prog : Program} {w : World} {A : Around} {E : Value → Shared → Prop} {s : Shared} {z TI TO i1 i2 l1 l2 : Addr} {xs ys : Array Value}
theorem hint (hT : s.TypeIs (.ref z) "zip") {Q : Bool → Shared → Prop} (h : ∀ b, Q b s) : wpAny (model prog w) A (Builtin.List.listLengthHint (.ref z)) Q E s := by
  unfold Builtin.List.listLengthHint
  apply wpAny_bind; refine wpAny_specialOf hT zip_no_len ?_
  show wpAny _ A (specialOf (Value.ref z) (Str.ofString "__length_hint__") >>= _) _ _ _
  apply wpAny_bind; refine wpAny_specialOf hT zip_no_hint ?_
  exact wpAny_pure (h _)
theorem extend {R : Result → Shared → Prop} {S : Addr} (hh : A.handled = none) (D : ZipApart z TI TO i1 i2 l1 l2) (st : St s.heap z TI TO i1 i2 l1 l2 S xs ys 0) (hz : IsZip s.heap z TI TO .none) (ns : z ≠ S ∧ TI ≠ S ∧ TO ≠ S ∧ i1 ≠ S ∧ i2 ≠ S ∧ l1 ≠ S ∧ l2 ≠ S) (hlo : z ≤ S ∧ TI ≤ S ∧ TO ≤ S ∧ i1 ≤ S ∧ i2 ≤ S)
    (c0 : Nat) (hS : s.heap.get? S = some { cls := .type "list", data := .seq #[] c0 }) (hsz : xs.size = ys.size) (hn : xs.size ≤ sizeLine) (res : Value)
    (hR : ∀ h' tk acc c as, (∀ b o, b ≠ S → b ≠ z → b ≠ TO → b ≠ i1 → b ≠ i2 → s.heap.get? b = some o → h'.get? b = some o) → h'.get? S = some { cls := .type "list", dict := none, data := .seq acc c, slots := #[] } → as.length = xs.size → Made xs ys S h' as → acc.toList = as.map Value.ref → R (.ok (.ret res)) { s with heap := h', toks := tk }) :
    wpAny (model prog w) A.in1 (Builtin.List.listExtendWith (.ref S) (.ref z) res)
      (fun fin s' => match fin with | .done f => R (.ok f) s' | .again c' => c'.quiet = true ∧ codeAny (model prog w) A c' R s') (fun e s' => R (.error e) s') s := by
  have ty : s.TypeIs (.ref z) "zip" := ⟨_, hz, rfl⟩
  have key : ∀ (h : Heap) (c1 tk : Nat), (∀ b o, b ≠ S → s.heap.get? b = some o → h.get? b = some o) → h.get? S = some { cls := .type "list", data := .seq #[] c1 } →
      codeAny (model prog w) A (.builtin "list.extend.loop" ⟨[.ref S, .ref z, res], []⟩) R { s with heap := h, toks := tk } := fun h c1 tk kp hS1 =>
    loop (s := s) (h0 := s.heap) (lo := S) hh D ns ⟨hlo.1, hlo.2.1, hlo.2.2.1, hlo.2.2.2.1, hlo.2.2.2.2, Nat.le_refl _⟩ hsz hn res hR xs.size 0 h tk c1 #[] [] (Nat.sub_zero _) (Nat.zero_le _) (st.keep kp ns) (fun b o a1 _ _ _ _ q => kp b o a1 q) hS1 rfl rfl
      ⟨List.Pairwise.nil, (fun _ ha => nomatch ha), (fun j a hj => by simp at hj)⟩ (Heap.lt_size hS1)
  unfold Builtin.List.listExtendWith
  apply wpAny_bind; refine wpAny_typeOf (T := "zip") ty ?_
  have e1 : Builtin.List.listSameRef (.ref S) (.ref z) = false := by simp [Builtin.List.listSameRef, ns.1.symm]
  have e2 : (Value.type "zip" == Value.type "list") = false := by decide
  have e3 : (Value.type "zip" == Value.type "tuple") = false := by decide
  simp only [e1, e2, e3, Bool.or_false, Bool.false_eq_true, if_false]
  apply wpAny_bind; refine wpAny_pyIter_zip hz ?_
  apply wpAny_bind; refine wpAny_holding (hint ty fun b => ?_)
  refine wpAny_ite_split (fun _ => ?_) (fun _ => wpAny_pure ⟨plainId_quiet PySem.F.plain_extend_loop _, key _ c0 _ (fun b o _ e => e) hS⟩)
  apply wpAny_bind; refine wpAny_rule ?_
  apply wpAny_bind
  show wpAny _ _ (updateSeq S (·.push .none) >>= fun _ => updateSeq S (·.pop)) _ _ _
  apply wpAny_bind; refine wpAny_updateSeq hS rfl ?_
  have hS2 := Heap.get?_update_self (Obj.mapSeq (·.push Value.none)) hS rfl
  refine wpAny_updateSeq (hz := by seq_fits) hS2 rfl ?_
  have hS3 := Heap.get?_update_self (Obj.mapSeq (·.pop)) hS2 rfl
  refine wpAny_pure ⟨plainId_quiet PySem.F.plain_extend_loop _, key _ _ _ (fun b o hb e => ?_) hS3⟩
  rw [Heap.get?_update_other _ _ (Ne.symm hb), Heap.get?_update_other _ _ (Ne.symm hb)]
  exact e
/-- list(z), z a zip that has given nothing -/
theorem call_list {Q : Value → Shared → Prop} (hh : A.handled = none) (D : ZipApart z TI TO i1 i2 l1 l2) (hz : IsZip s.heap z TI TO .none) (pr : IsPair s.heap TI (.ref i1) (.ref i2)) (ow : IsPair s.heap TO .none .none) (h1 : s.heap.IsTupleIter i1 l1 0) (h2 : s.heap.IsTupleIter i2 l2 0) (t1 : s.heap.IsTuple l1 xs) (t2 : s.heap.IsTuple l2 ys)
    (hsz : xs.size = ys.size) (hn : xs.size ≤ sizeLine)
    (hQ : ∀ h' tk acc c as, (∀ b o, b ≠ z → b ≠ TO → b ≠ i1 → b ≠ i2 → s.heap.get? b = some o → h'.get? b = some o) → h'.get? s.heap.objs.size = some { cls := .type "list", dict := none, data := .seq acc c, slots := #[] } → as.length = xs.size → Made xs ys s.heap.objs.size h' as → acc.toList = as.map Value.ref → Q (.ref s.heap.objs.size) { s with heap := h', toks := tk }) :
    wpAny (model prog w) A (call (.type "list") [.ref z]) Q E s := by
  refine callType_codes (Q₁ := fun obj s1 => obj = .ref s.heap.objs.size ∧ s1 = { s with heap := s.heap.push { cls := .type "list", data := .seq #[] } }) PySem.F.called_list (PySem.F.typeCall_list_1 _) PySem.F.entry_list_init (code_list_new _ ⟨rfl, rfl⟩) fun obj s1 hq => ?_
  obtain ⟨rfl, rfl⟩ := hq
  have hS : (s.heap.push { cls := .type "list", data := .seq #[] }).get? s.heap.objs.size = some { cls := .type "list", data := .seq #[] } := Heap.get?_push_size _ rfl
  have lt : ∀ {c o}, s.heap.get? c = some o → c < s.heap.objs.size := fun e => Heap.lt_size e
  have lz := lt hz
  have lTI := lt pr
  have lTO := lt ow
  have li1 : i1 < s.heap.objs.size := by
    obtain ⟨o, e, _⟩ := id h1
    exact lt e
  have li2 : i2 < s.heap.objs.size := by
    obtain ⟨o, e, _⟩ := id h2
    exact lt e
  have ll1 : l1 < s.heap.objs.size := by
    obtain ⟨o, e, _⟩ := id t1
    exact lt e
  have ll2 : l2 < s.heap.objs.size := by
    obtain ⟨o, e, _⟩ := id t2
    exact lt e
  have ns : z ≠ s.heap.objs.size ∧ TI ≠ s.heap.objs.size ∧ TO ≠ s.heap.objs.size ∧ i1 ≠ s.heap.objs.size ∧ i2 ≠ s.heap.objs.size ∧ l1 ≠ s.heap.objs.size ∧ l2 ≠ s.heap.objs.size :=
    ⟨Nat.ne_of_lt lz, Nat.ne_of_lt lTI, Nat.ne_of_lt lTO, Nat.ne_of_lt li1, Nat.ne_of_lt li2, Nat.ne_of_lt ll1, Nat.ne_of_lt ll2⟩
  have pu : ∀ c o, s.heap.get? c = some o → (s.heap.push { cls := .type "list", data := .seq #[] }).get? c = some o := fun c o e => Heap.get?_push_of_some _ e
  have st : St (s.heap.push { cls := .type "list", data := .seq #[] }) z TI TO i1 i2 l1 l2 s.heap.objs.size xs ys 0 := ⟨pu _ _ pr, ⟨_, _, pu _ _ ow⟩, h1.at fun o e => pu _ o e, h2.at fun o e => pu _ o e, t1.at fun o e => pu _ o e, t2.at fun o e => pu _ o e, .inl (pu _ _ hz)⟩
  refine ⟨⟨_, hS, rfl⟩, PySem.F.args_list_init_2 _ _, ?_⟩
  show wpAny _ _ (do let old ← Builtin.List.listItems (.ref s.heap.objs.size); Builtin.List.listUpdate (.ref s.heap.objs.size) (fun _ => #[]); letGo old.toList.reverse; Builtin.List.listExtendWith (.ref s.heap.objs.size) (.ref z) .none) _ _ _
  apply wpAny_bind
  unfold Builtin.List.listItems
  apply wpAny_bind; refine wpAny_seqItems hS rfl (wpAny_pure ?_)
  show wpAny _ _ (updateSeq s.heap.objs.size (fun _ => #[]) >>= fun _ => letGo (#[] : Array Value).toList.reverse >>= fun _ => Builtin.List.listExtendWith (.ref s.heap.objs.size) (.ref z) .none) _ _ _
  apply wpAny_bind; refine wpAny_updateSeq hS rfl ?_
  have hS2 := Heap.get?_update_self (Obj.mapSeq (fun _ => (#[] : Array Value))) hS rfl
  have oth : ∀ b o, b ≠ s.heap.objs.size → (s.heap.push { cls := .type "list", data := .seq #[] }).get? b = some o → ((s.heap.push { cls := .type "list", data := .seq #[] }).update s.heap.objs.size (Obj.mapSeq (fun _ => (#[] : Array Value)))).get? b = some o := fun b o nb q => by
    rw [Heap.get?_update_other _ _ (Ne.symm nb)]
    exact q
  apply wpAny_bind; refine wpAny_letGo ?_
  refine extend (A := A.in1) hh D (st.keep oth ns) (oth _ _ ns.1 (pu _ _ hz)) ns ⟨Nat.le_of_lt lz, Nat.le_of_lt lTI, Nat.le_of_lt lTO, Nat.le_of_lt li1, Nat.le_of_lt li2⟩ _ hS2 hsz hn .none fun h' tk acc c as kp hS' hal hG ha => ?_
  exact ⟨rfl, hQ h' tk acc c as (fun b o a2 a3 a4 a5 q => kp b o (Nat.ne_of_lt (lt q)) a2 a3 a4 a5 (oth b o (Nat.ne_of_lt (lt q)) (pu b o q))) hS' hal hG ha⟩
end
end LZ

namespace LZ
open PySem PySem.Spec PyProof.Rows L2
/-- the pairs at their places -/
def put : Hp → List Addr → List (V × V) → Hp
  | H, a :: as, q :: qs => put (upd H a (.tup [q.1, q.2])) as qs
  | H, _, _ => H
theorem put_off {b : Addr} : ∀ (as : List Addr) (qs : List (V × V)) (H : Hp), b ∉ as → put H as qs b = H b
  | [], _, _, _ => rfl
  | _ :: _, [], _, _ => rfl
  | a :: as, q :: qs, H, h => by
    show put (upd H a (.tup [q.1, q.2])) as qs b = H b
    rw [put_off as qs _ fun z => h (List.mem_cons_of_mem _ z)]
    exact upd_ne fun z => h (by rw [z]; exact List.mem_cons_self)
theorem put_at : ∀ (as : List Addr) (qs : List (V × V)) (H : Hp), as.length = qs.length → as.Nodup → ∀ (j : Nat) (a : Addr) (q : V × V), as[j]? = some a → qs[j]? = some q → put H as qs a = some (.tup [q.1, q.2])
  | [], _, _, _, _, j, a, q, h, _ => by simp at h
  | _ :: _, [], _, h, _, _, _, _, _, _ => by cases h
  | a :: as, q :: qs, H, hl, hn, 0, a', q', h1, h2 => by
    cases h1
    cases h2
    show put (upd H a (.tup [q.1, q.2])) as qs a = _
    rw [put_off as qs _ (List.nodup_cons.mp hn).1]
    exact upd_same
  | a :: as, q :: qs, H, hl, hn, j + 1, a', q', h1, h2 => put_at as qs _ (Nat.succ.inj hl) (List.nodup_cons.mp hn).2 j a' q' h1 h2
theorem refs_vals : ∀ as : List Addr, Vals (as.map V.ref) (as.map Value.ref)
  | [] => .nil
  | _ :: as => .cons rfl (refs_vals as)
/-- list(zip(a, b)) -/
def tLZip (K : PySem.W.Frag) (ta : TA) : TE := fun σ H Q => ta σ H fun vs H1 => ∃ (a b : Addr) (xs ys : List V), vs = [.ref a, .ref b] ∧ SqT K H1 a xs ∧ SqT K H1 b ys ∧ xs.length = ys.length ∧
  ∀ (H' : Hp) (p : Addr) (as : List Addr), Same H1 H' → H1 p = none → H' p = some (.lst (as.map V.ref)) → as.length = xs.length → (∀ (j : Nat) (c : Addr) (x y : V), as[j]? = some c → xs[j]? = some x → ys[j]? = some y → H1 c = none ∧ H' c = some (.tup [x, y])) → Q (.ref p) H'
section
variable {X : Cx}
theorem laid {pins : List (Addr × Obj)} {σ : L2.St} {H : Hp} {s : Shared} {h' : Heap} {tk : Nat} {xs ys : List V} {us vs : List Value} {acc : Array Value} {c : Nat} {as : List Addr} {S : Addr} (I : Inv X pins σ H s) (hz : xs.length ≤ sizeLine) (rx : Vals xs us) (ry : Vals ys vs) (hl : xs.length = ys.length)
    (hk : ∀ b o, s.heap.get? b = some o → h'.get? b = some o) (le : s.heap.objs.size ≤ S) (hS : h'.get? S = some { cls := .type "list", dict := none, data := .seq acc c, slots := #[] }) (hal : as.length = xs.length) (hG : Made us.toArray vs.toArray S h' as) (hacc : acc.toList = as.map Value.ref) :
    ∃ H' : Hp, Same H H' ∧ H S = none ∧ H' S = some (.lst (as.map V.ref)) ∧ (∀ (j : Nat) (c : Addr) (x y : V), as[j]? = some c → xs[j]? = some x → ys[j]? = some y → H c = none ∧ H' c = some (.tup [x, y])) ∧ Inv X pins σ H' { s with heap := h', toks := tk } := by
  have hSn : S ∉ as := fun z => Nat.lt_irrefl _ (hG.above _ z)
  have nd : as.Nodup := List.Pairwise.imp (fun {a b} (h : a < b) => Nat.ne_of_lt h) hG.rise
  have new : ∀ t ∈ as, H t = none := fun t ht => I.hok.fresh (Nat.le_trans le (Nat.le_of_lt (hG.above t ht)))
  have newS : H S = none := I.hok.fresh le
  have lq : as.length = (xs.zip ys).length := by
    rw [List.length_zip]
    omega
  have atP := put_at as (xs.zip ys) (upd H S (.lst (as.map V.ref))) lq nd
  have off : ∀ b, b ∉ as → b ≠ S → put (upd H S (.lst (as.map V.ref))) as (xs.zip ys) b = H b := fun b z1 z2 => by
    rw [put_off as _ _ z1]
    exact upd_ne z2
  have low : ∀ b o, s.heap.get? b = some o → b ∉ as ∧ b ≠ S := fun b o e =>
    ⟨fun z => absurd (Heap.lt_size e) (Nat.not_lt.mpr (Nat.le_trans le (Nat.le_of_lt (hG.above b z)))), Nat.ne_of_lt (Nat.lt_of_lt_of_le (Heap.lt_size e) le)⟩
  have kp : Same H (put (upd H S (.lst (as.map V.ref))) as (xs.zip ys)) := fun b u e => by
    rw [off b (fun z => by rw [new b z] at e; cases e) (fun z => by rw [z, newS] at e; cases e)]
    exact e
  have eS : put (upd H S (.lst (as.map V.ref))) as (xs.zip ys) S = some (.lst (as.map V.ref)) := by
    rw [put_off as _ _ hSn]
    exact upd_same
  have zipAt : ∀ (j : Nat) (x y : V), xs[j]? = some x → ys[j]? = some y → (xs.zip ys)[j]? = some (x, y) := fun j x y e1 e2 => by
    rw [List.getElem?_zip_eq_some]
    exact ⟨e1, e2⟩
  refine ⟨_, kp, newS, eS, fun j c x y e1 e2 e3 => ⟨new c (List.mem_of_getElem? e1), atP j c (x, y) e1 (zipAt j x y e2 e3)⟩, ?_⟩
  refine I.call' (ch := []) rfl ⟨fun b o q _ _ _ => hk b o q, fun b o q _ _ _ => ⟨o.slots, hk b o q⟩, fun b o q n _ => ?_, fun b o q _ => ⟨o, hk b o q⟩, fun b xs q => kp b _ q, fun b o u q => kp b _ q, fun b ps q => ⟨#[], by rw [kp b _ q]; simp⟩⟩ (fun b u q => ?_) I.bare fun b z => by simp at z
  · obtain ⟨z1, z2⟩ := low b o q
    rw [off b z1 z2]
    exact n
  · by_cases hb : b ∈ as
    · obtain ⟨j, hj⟩ := List.mem_iff_getElem?.mp hb
      have hjl : j < as.length := (List.getElem?_eq_some_iff.mp hj).1
      obtain ⟨x, hx⟩ : ∃ x, xs[j]? = some x := ⟨_, List.getElem?_eq_getElem (show j < xs.length by omega)⟩
      obtain ⟨y, hy⟩ : ∃ y, ys[j]? = some y := ⟨_, List.getElem?_eq_getElem (show j < ys.length by omega)⟩
      rw [atP j b (x, y) hj (zipAt j x y hx hy)] at q
      cases q
      obtain ⟨u1, u2, f1, f2, f3⟩ := hG.pairs j b hj
      obtain ⟨v1, g1, r1⟩ := rx.get hx
      obtain ⟨v2, g2, r2⟩ := ry.get hy
      have e1 : u1 = v1 := by
        rw [List.getElem?_toArray, g1] at f1
        exact (Option.some.inj f1).symm
      have e2 : u2 = v2 := by
        rw [List.getElem?_toArray, g2] at f2
        exact (Option.some.inj f2).symm
      subst e1 e2
      exact ⟨by show 2 ≤ sizeLine; decide, [u1, u2], .cons r1 (.cons r2 .nil), ⟨_, f3, rfl, _, rfl⟩⟩
    · by_cases hb2 : b = S
      · subst hb2
        rw [eS] at q
        cases q
        refine ⟨by rw [List.length_map]; omega, acc.toList, c, by rw [hacc]; exact refs_vals as, ?_⟩
        rw [Array.toArray_toList]
        exact hS
      · rw [off b hb hb2] at q
        exact (I.hok b u q).stay (fun d v _ y => hk d v y) (fun d y => kp d _ y) fun d xs y => kp d _ y
theorem pe_listZip {e e2 : Expr} {ta : TA} {p p2 q pos : Pos} (hg : Gl X "list") (hm : X.mg "list" = none) (hg2 : Gl X "zip") (hm2 : X.mg "zip" = none) (ha : PA X [e, e2] ta) (hc : X.calm = true := by rfl)
    (hs : starEach [e, e2] X.env = (false, eval e X.env) :: starEach [e2] X.env := by rfl) (hpl : (backTo q (starEach [e2] X.env)).any (·.1) = false := by rfl)
    (hs0 : starEach [.Call (.Name "zip" p2) [e, e2] [] q] X.env = (false, eval (.Call (.Name "zip" p2) [e, e2] [] q) X.env) :: starEach [] X.env := by rfl) :
    PE X (.Call (.Name "list" p) [.Call (.Name "zip" p2) [e, e2] [] q] [] pos) (tLZip X.K ta) := by
  refine ⟨fun pins s σ H Q I h => ?_⟩
  refine Call_ (ld_blt I hg hm boot_list ?_)
  refine PyProof.Rows.callWith_type1 (PyProof.Rows.args_cons ?_ hs0) hs0 rfl
  refine Call_ (ld_blt I hg2 hm2 PyProof.Rows.boot_zip ?_)
  refine PyProof.Rows.callWith_type1 (thn (ha.run q pins s σ H _ I h) fun us s1 ⟨vs, H1, I1, r1, q1⟩ => ?_) hs hpl
  obtain ⟨a, b, xs, ys, ex, hqx, hqy, hl, q1⟩ := q1
  subst ex
  cases r1 with
  | cons r rr =>
    cases rr with
    | cons r' rr =>
      cases rr
      cases r
      cases r'
      obtain ⟨its, rv, t1, z1⟩ := I1.tuple hqx
      obtain ⟨its2, rv2, t2, z2⟩ := I1.tuple hqy
      have l1 := rv.length
      have l2 := rv2.length
      obtain ⟨oa, ea, _⟩ := id t1
      obtain ⟨ob, eb, _⟩ := id t2
      refine RZ.call_zipT (show s1.heap.IsTuple a its.toArray from t1) (show s1.heap.IsTuple b its2.toArray from t2) fun h' hz hTI hTO g1 g2 hsz hk => ?_
      refine PyProof.Rows.args_nil ?_
      refine call_list (s := { s1 with heap := h' }) (xs := its.toArray) (ys := its2.toArray) (I1.ok.hd hc) (PySem.W.ktu_apart s1.heap.objs.size a b (Heap.lt_size ea) (Heap.lt_size eb)) hz hTI hTO g1 g2 ((show s1.heap.IsTuple a its.toArray from t1).at fun o e => hk _ o e) ((show s1.heap.IsTuple b its2.toArray from t2).at fun o e => hk _ o e)
        (by simp; omega) (by simp; omega) fun h2 tk acc c as kp hS hal hG hacc => ?_
      dsimp only at kp hS hG ⊢
      rw [hsz] at hS hG ⊢
      have old : ∀ b o, s1.heap.get? b = some o → h2.get? b = some o := fun c o e => by
        have lt := Heap.lt_size e
        exact kp c o (Nat.ne_of_lt (Nat.lt_of_lt_of_le lt (Nat.le_add_right _ _))) (Nat.ne_of_lt (Nat.lt_of_lt_of_le lt (Nat.le_add_right _ _))) (Nat.ne_of_lt lt) (Nat.ne_of_lt (Nat.lt_of_lt_of_le lt (Nat.le_add_right _ _))) (hk c o e)
      obtain ⟨H', j1, j2, j3, j4, J⟩ := laid (tk := tk) I1 (by omega) rv rv2 hl old (Nat.le_add_right _ 5) hS (by simp at hal; omega) hG hacc
      exact ⟨.ref _, H', J, rfl, q1 H' _ as j1 j2 j3 (by simp at hal; omega) j4⟩
end
end LZ

/-! ### list(zip(a, b)) of lists and tuples, as they come -/
namespace LZ
open PySem PySem.Spec PyProof.Rows L2
/-- an iterator that gives the items of xs, one after another -/
abbrev Dr (prog : Program) (w : World) (it : Addr) (fp : List Addr) (xs : Array Value) (St : Nat → Heap → Prop) : Prop := ∀ A : Around, A.handled = none → Draws prog w A it fp xs.size (fun i v => xs[i]? = some v) St
section
variable {prog : Program} {w : World} {A : Around} {E : Value → Shared → Prop} {s : Shared} {z TI TO T i1 i2 : Addr} {fp1 fp2 : List Addr} {xs ys : Array Value} {St1 St2 : Nat → Heap → Prop}
theorem m_raw {f : Bool} {oT : Obj} {k : Nat} {Q : Value → Shared → Prop} (hh : A.handled = none) (S : ZipSep2 z TI TO i1 i2 fp1 fp2) (D1 : Dr prog w i1 fp1 xs St1) (D2 : Dr prog w i2 fp2 ys St2) (hz : IsZipHeld s.heap z TI TO T f) (hT : s.heap.get? T = some oT) (hTI : IsPair s.heap TI (.ref i1) (.ref i2))
    (h1 : St1 k s.heap) (h2 : St2 k s.heap) (l1 : k < xs.size) (l2 : k < ys.size)
    (hQ : ∀ x y h' tk, xs[k]? = some x → ys[k]? = some y → IsZipHeld h' z TI TO T true → St1 (k + 1) h' → St2 (k + 1) h' → IsPair h' s.heap.objs.size x y → h'.objs.size = s.heap.objs.size + 1 → (∀ c o, c ≠ z → c ≠ i1 → c ≠ i2 → s.heap.get? c = some o → h'.get? c = some o) → Q (.ref s.heap.objs.size) { s with heap := h', toks := tk }) :
    wpAny (model prog w) A (Builtin.«zip.__next__» ⟨[.ref z], []⟩) (fun fin s' => ∃ v, fin = .done (.ret v) ∧ Q v s') E s := by
  show wpAny _ _ (field (.ref z) 2 >>= _) _ _ _
  apply wpAny_bind; apply wpAny_field hz rfl (x := .bool false) rfl
  show wpAny _ _ (field (.ref z) 3 >>= _) _ _ _
  apply wpAny_bind; apply wpAny_field hz rfl (x := .ref TI) rfl
  apply wpAny_bind; apply wpAny_seqItems hTI rfl
  show wpAny _ _ (Builtin.SmallTypes.ownedTupleIsFree (.ref z) >>= _) _ _ _
  apply wpAny_bind; refine wpAny_tupleHeld_zip hz hT fun ha hza sa => ?_
  simp only [Bool.false_eq_true, if_false]
  apply wpAny_bind
  rw [← Array.forIn_toList]
  simp only [List.forIn_cons, List.forIn_nil]
  apply wpAny_bind; apply wpAny_bind; apply wpAny_holding
  show wpAny _ _ (Builtin.SmallTypes.nextOf (.ref i1) >>= _) _ _ _
  apply wpAny_bind
  refine (D1 _ hh).item k { s with heap := ha } _ _ l1 ((D1 _ hh).over h1 sa S.zf1) fun x hb tk1 ex n1 sb => wpAny_pure (wpAny_pure ?_)
  apply wpAny_bind; apply wpAny_bind; apply wpAny_holding
  show wpAny _ _ (Builtin.SmallTypes.nextOf (.ref i2) >>= _) _ _ _
  apply wpAny_bind
  refine (D2 _ hh).item k { s with heap := hb, toks := tk1 } _ _ l2 ((D2 _ hh).over ((D2 _ hh).over h2 sa S.zf2) sb S.sep1_2) fun y hc tk2 ey n2 sc => wpAny_pure (wpAny_pure (wpAny_pure ?_))
  dsimp only at sb sc
  show wpAny _ _ (newTuple [x, y] >>= _) _ _ _
  apply wpAny_bind; refine wpAny_newTuple ?_
  have sz : hc.objs.size = s.heap.objs.size := by rw [sc.1, sb.1, sa.1]
  have kp : ∀ c o, c ≠ z → c ≠ i1 → c ≠ i2 → s.heap.get? c = some o → hc.get? c = some o := fun c o c1 c2 c3 e => sc.extBut _ _ c3 (sb.extBut _ _ c2 (sa.extBut _ _ c1 e))
  have zc : IsZipHeld hc z TI TO T true := sc.extBut _ _ S.zi2 (sb.extBut _ _ S.zi1 hza)
  have n1c := (D1 _ hh).over n1 sc S.sep2_1
  have pc : IsPair (hc.push { cls := .type "tuple", data := .seq #[x, y] }) hc.objs.size x y := Heap.get?_push_size _ rfl
  have zs : (hc.push { cls := .type "tuple", data := .seq #[x, y] }).objs.size = hc.objs.size + 1 := Heap.size_push ..
  apply wpAny_pure
  refine ⟨_, rfl, ?_⟩
  show Q (.ref hc.objs.size) _
  rw [sz] at pc zs ⊢
  exact hQ x y _ tk2 ex ey (Heap.get?_push_of_some _ zc) ((D1 _ hh).frame _ _ _ n1c fun b _ o e => Heap.get?_push_of_some _ e) ((D2 _ hh).frame _ _ _ n2 fun b _ o e => Heap.get?_push_of_some _ e) pc zs fun c o c1 c2 c3 e => Heap.get?_push_of_some _ (kp c o c1 c2 c3 e)
theorem m_stop {f : Bool} {oT : Obj} {k : Nat} {Q : Fin → Shared → Prop} (hh : A.handled = none) (S : ZipSep2 z TI TO i1 i2 fp1 fp2) (D1 : Dr prog w i1 fp1 xs St1) (D2 : Dr prog w i2 fp2 ys St2) (hz : IsZipHeld s.heap z TI TO T f) (hT : s.heap.get? T = some oT) (hTI : IsPair s.heap TI (.ref i1) (.ref i2))
    (h1 : St1 k s.heap) (l1 : k = xs.size)
    (hE : ∀ h' e, (∀ c o, c ≠ z → c ≠ i1 → c ≠ i2 → s.heap.get? c = some o → h'.get? c = some o) → (∃ o, h'.get? e = some o ∧ o.cls = .type "StopIteration") → E (.ref e) { s with heap := h' }) :
    wpAny (model prog w) A (Builtin.«zip.__next__» ⟨[.ref z], []⟩) Q E s := by
  show wpAny _ _ (field (.ref z) 2 >>= _) _ _ _
  apply wpAny_bind; apply wpAny_field hz rfl (x := .bool false) rfl
  show wpAny _ _ (field (.ref z) 3 >>= _) _ _ _
  apply wpAny_bind; apply wpAny_field hz rfl (x := .ref TI) rfl
  apply wpAny_bind; apply wpAny_seqItems hTI rfl
  show wpAny _ _ (Builtin.SmallTypes.ownedTupleIsFree (.ref z) >>= _) _ _ _
  apply wpAny_bind; refine wpAny_tupleHeld_zip hz hT fun ha hza sa => ?_
  simp only [Bool.false_eq_true, if_false]
  apply wpAny_bind
  rw [← Array.forIn_toList]
  simp only [List.forIn_cons, List.forIn_nil]
  apply wpAny_bind; apply wpAny_bind; apply wpAny_holding
  show wpAny _ _ (Builtin.SmallTypes.nextOf (.ref i1) >>= _) _ _ _
  apply wpAny_bind
  subst l1
  exact (D1 _ hh).done { s with heap := ha } _ _ ((D1 _ hh).over h1 sa S.zf1) fun hb e sb he => hE hb e (fun c o c1 c2 _ q => sb _ _ c2 (sa.extBut _ _ c1 q)) he
theorem m_item {f : Bool} {oT : Obj} {k : Nat} {Q : Option Value → Shared → Prop} (hh : A.handled = none) (S : ZipSep2 z TI TO i1 i2 fp1 fp2) (D1 : Dr prog w i1 fp1 xs St1) (D2 : Dr prog w i2 fp2 ys St2) (hz : IsZipHeld s.heap z TI TO T f) (hT : s.heap.get? T = some oT) (hTI : IsPair s.heap TI (.ref i1) (.ref i2))
    (h1 : St1 k s.heap) (h2 : St2 k s.heap) (l1 : k < xs.size) (l2 : k < ys.size)
    (hQ : ∀ x y h' tk, xs[k]? = some x → ys[k]? = some y → IsZipHeld h' z TI TO T true → St1 (k + 1) h' → St2 (k + 1) h' → IsPair h' s.heap.objs.size x y → h'.objs.size = s.heap.objs.size + 1 → (∀ c o, c ≠ z → c ≠ i1 → c ≠ i2 → s.heap.get? c = some o → h'.get? c = some o) → Q (some (.ref s.heap.objs.size)) { s with heap := h', toks := tk }) :
    wpAny (model prog w) A (pyNext (.ref z)) Q E s := by
  have ty : s.TypeIs (.ref z) "zip" := ⟨_, hz, rfl⟩
  unfold pyNext
  apply wpAny_bind; apply wpAny_attempt
  refine wpAny_callSpecial?_slot (name := Str.ofString "__next__") ty F.slot_zip_next (wpAny_call_entry F.slot_zip_next ty F.entry_zip_next ?_ (F.args_zip_next_1 _))
  exact m_raw (A := A.in1) hh S D1 D2 hz hT hTI h1 h2 l1 l2 fun x y h' tk e1 e2 a1 a2 a3 a4 a5 a6 => wpAny_pure (hQ x y h' tk e1 e2 a1 a2 a3 a4 a5 a6)
theorem m_end {f : Bool} {oT : Obj} {k : Nat} {Q : Option Value → Shared → Prop} (hh : A.handled = none) (S : ZipSep2 z TI TO i1 i2 fp1 fp2) (D1 : Dr prog w i1 fp1 xs St1) (D2 : Dr prog w i2 fp2 ys St2) (hz : IsZipHeld s.heap z TI TO T f) (hT : s.heap.get? T = some oT) (hTI : IsPair s.heap TI (.ref i1) (.ref i2))
    (h1 : St1 k s.heap) (l1 : k = xs.size)
    (hQ : ∀ h', (∀ c o, c ≠ z → c ≠ i1 → c ≠ i2 → s.heap.get? c = some o → h'.get? c = some o) → Q none { s with heap := h' }) : wpAny (model prog w) A (pyNext (.ref z)) Q E s := by
  have ty : s.TypeIs (.ref z) "zip" := ⟨_, hz, rfl⟩
  unfold pyNext
  apply wpAny_bind; apply wpAny_attempt
  refine wpAny_callSpecial?_slot (name := Str.ofString "__next__") ty F.slot_zip_next (wpAny_call_entry F.slot_zip_next ty F.entry_zip_next ?_ (F.args_zip_next_1 _))
  refine m_stop (A := A.in1) hh S D1 D2 hz hT hTI h1 l1 fun h' e kp he => ?_
  obtain ⟨o, ho, hc⟩ := he
  apply wpAny_bind
  refine wpAny_isInstance (T := "StopIteration") (b := true) ⟨o, ho, hc⟩ isSubtype_stop ?_
  exact wpAny_pure (hQ _ kp)
/-- zip with k pairs given, all of them held -/
structure StM (h : Heap) (z TI TO i1 i2 : Addr) (St1 St2 : Nat → Heap → Prop) (S : Addr) (k : Nat) : Prop where
  pr : IsPair h TI (.ref i1) (.ref i2)
  ow : ∃ a b, IsPair h TO a b
  s1 : St1 k h
  s2 : St2 k h
  zp : IsZip h z TI TO .none ∨ ∃ T f oT, IsZipHeld h z TI TO T f ∧ h.get? T = some oT ∧ T ≠ z ∧ T ≠ TO ∧ T ≠ i1 ∧ T ≠ i2 ∧ T ≠ S
theorem StM.keep {h h' : Heap} {S : Addr} {k : Nat} (D1 : Dr prog w i1 fp1 xs St1) (D2 : Dr prog w i2 fp2 ys St2) (hh : A.handled = none) (st : StM h z TI TO i1 i2 St1 St2 S k) (kp : ∀ b o, b ≠ S → h.get? b = some o → h'.get? b = some o) (ns : z ≠ S ∧ TI ≠ S ∧ TO ≠ S ∧ S ∉ fp1 ∧ S ∉ fp2) : StM h' z TI TO i1 i2 St1 St2 S k := by
  obtain ⟨nz, nTI, nTO, n1, n2⟩ := ns
  obtain ⟨pr, ⟨a, b, ow⟩, s1, s2, zp⟩ := st
  refine ⟨kp _ _ nTI pr, ⟨a, b, kp _ _ nTO ow⟩, (D1 _ hh).frame _ _ _ s1 fun c hc o e => kp c o (fun q => n1 (q ▸ hc)) e, (D2 _ hh).frame _ _ _ s2 fun c hc o e => kp c o (fun q => n2 (q ▸ hc)) e, ?_⟩
  rcases zp with q | ⟨T, f, oT, q, hT, a1, a2, a3, a4, a5⟩
  · exact .inl (kp _ _ nz q)
  · exact .inr ⟨T, f, oT, kp _ _ nz q, kp _ _ a5 hT, a1, a2, a3, a4, a5⟩
theorem StM.item {S : Addr} {k : Nat} {Q : Option Value → Shared → Prop} (hh : A.handled = none) (D : ZipSep2 z TI TO i1 i2 fp1 fp2) (D1 : Dr prog w i1 fp1 xs St1) (D2 : Dr prog w i2 fp2 ys St2) (st : StM s.heap z TI TO i1 i2 St1 St2 S k) (hS : S < s.heap.objs.size) (l1 : k < xs.size) (l2 : k < ys.size)
    (hQ : ∀ x y h' tk, xs[k]? = some x → ys[k]? = some y → StM h' z TI TO i1 i2 St1 St2 S (k + 1) → IsPair h' s.heap.objs.size x y → h'.objs.size = s.heap.objs.size + 1 → (∀ c o, c ≠ z → c ≠ TO → c ≠ i1 → c ≠ i2 → s.heap.get? c = some o → h'.get? c = some o) → Q (some (.ref s.heap.objs.size)) { s with heap := h', toks := tk }) :
    wpAny (model prog w) A (pyNext (.ref z)) Q E s := by
  obtain ⟨pr, ⟨a, b, ow⟩, s1, s2, zp⟩ := st
  have up : ∀ {c o}, s.heap.get? c = some o → s.heap.objs.size ≠ c := fun e => Nat.ne_of_gt (Heap.lt_size e)
  have u1 : s.heap.objs.size ≠ i1 := by
    obtain ⟨o, e⟩ := (D1 _ hh).live _ _ s1
    exact up e
  have u2 : s.heap.objs.size ≠ i2 := by
    obtain ⟨o, e⟩ := (D2 _ hh).live _ _ s2
    exact up e
  rcases zp with q | ⟨T, f, oT, q, hT, a1, a2, a3, a4, a5⟩
  · refine wpAny_pyNext_zipD2_item D (D1 A.in1 hh) (D2 A.in1 hh) q pr ow s1 s2 l1 l2 fun x y h' tk ex ey zq TOq g1 g2 hp hs kp => ?_
    exact hQ x y h' tk ex ey ⟨kp _ _ D.TIz D.TITO D.TIi1 D.TIi2 pr, ⟨_, _, TOq⟩, g1, g2, .inr ⟨_, false, _, zq, hp, up q, up ow, u1, u2, Nat.ne_of_gt hS⟩⟩ hp hs kp
  · refine m_item hh D D1 D2 q hT pr s1 s2 l1 l2 fun x y h' tk ex ey zq g1 g2 hp hs kp => ?_
    exact hQ x y h' tk ex ey ⟨kp _ _ D.TIz D.TIi1 D.TIi2 pr, ⟨_, _, kp _ _ D.TOz D.Ti1 D.Ti2 ow⟩, g1, g2, .inr ⟨T, true, oT, zq, kp _ _ a1 a3 a4 hT, a1, a2, a3, a4, a5⟩⟩ hp hs (fun c o c1 _ c3 c4 e => kp c o c1 c3 c4 e)
theorem StM.done {S : Addr} {k : Nat} {Q : Option Value → Shared → Prop} (hh : A.handled = none) (D : ZipSep2 z TI TO i1 i2 fp1 fp2) (D1 : Dr prog w i1 fp1 xs St1) (D2 : Dr prog w i2 fp2 ys St2) (st : StM s.heap z TI TO i1 i2 St1 St2 S k) (l1 : k = xs.size) (l2 : k = ys.size)
    (hQ : ∀ h' tk, (∀ c o, c ≠ z → c ≠ TO → c ≠ i1 → c ≠ i2 → s.heap.get? c = some o → h'.get? c = some o) → Q none { s with heap := h', toks := tk }) : wpAny (model prog w) A (pyNext (.ref z)) Q E s := by
  obtain ⟨pr, ⟨a, b, ow⟩, s1, s2, zp⟩ := st
  rcases zp with q | ⟨T, f, oT, q, hT, _⟩
  · exact wpAny_pyNext_zipD2_end D (D1 A.in1 hh) (D2 A.in1 hh) q pr ow s1 s2 (by omega) (by omega) (.inl l1) hQ
  · exact m_end hh D D1 D2 q hT pr s1 l1 fun h' kp => hQ h' s.toks fun c o c1 _ c3 c4 e => kp c o c1 c3 c4 e
end
section
variable {prog : Program} {w : World} {A : Around} {s : Shared} {R : Result → Shared → Prop} {z TI TO i1 i2 S lo : Addr} {fp1 fp2 : List Addr} {xs ys : Array Value} {St1 St2 : Nat → Heap → Prop}
theorem m_loop (hh : A.handled = none) (D : ZipSep2 z TI TO i1 i2 fp1 fp2) (D1 : Dr prog w i1 fp1 xs St1) (D2 : Dr prog w i2 fp2 ys St2) (ns : z ≠ S ∧ TI ≠ S ∧ TO ≠ S ∧ S ∉ fp1 ∧ S ∉ fp2) (hlo : z ≤ lo ∧ TO ≤ lo ∧ i1 ≤ lo ∧ i2 ≤ lo ∧ S ≤ lo) (hsz : xs.size = ys.size) (hn : xs.size ≤ sizeLine) (res : Value) {h0 : Heap}
    (hR : ∀ h' tk acc c as, (∀ b o, b ≠ S → b ≠ z → b ≠ TO → b ≠ i1 → b ≠ i2 → h0.get? b = some o → h'.get? b = some o) → h'.get? S = some { cls := .type "list", dict := none, data := .seq acc c, slots := #[] } → as.length = xs.size → Made xs ys lo h' as →
      acc.toList = as.map Value.ref → R (.ok (.ret res)) { s with heap := h', toks := tk }) :
    ∀ (m k : Nat) (h : Heap) (tk c : Nat) (acc : Array Value) (as : List Addr), xs.size - k = m → k ≤ xs.size → StM h z TI TO i1 i2 St1 St2 S k → (∀ b o, b ≠ S → b ≠ z → b ≠ TO → b ≠ i1 → b ≠ i2 → h0.get? b = some o → h.get? b = some o) →
      h.get? S = some { cls := .type "list", dict := none, data := .seq acc c, slots := #[] } → acc.toList = as.map Value.ref → as.length = k → Made xs ys lo h as → lo < h.objs.size →
      codeAny (model prog w) A (.builtin "list.extend.loop" ⟨[.ref S, .ref z, res], []⟩) R { s with heap := h, toks := tk } := by
  have nS := ns
  obtain ⟨nz, nTI, nTO, n1, n2⟩ := ns
  obtain ⟨oz, oTO, o1, o2, oS⟩ := hlo
  have ni1 : S ≠ i1 := fun q => n1 (q ▸ D.mem1)
  have ni2 : S ≠ i2 := fun q => n2 (q ▸ D.mem2)
  have hi : ∀ {c : Addr}, lo < c → c ≠ z ∧ c ≠ TO ∧ c ≠ i1 ∧ c ≠ i2 ∧ c ≠ S := fun {c} q =>
    ⟨Nat.ne_of_gt (Nat.lt_of_le_of_lt oz q), Nat.ne_of_gt (Nat.lt_of_le_of_lt oTO q), Nat.ne_of_gt (Nat.lt_of_le_of_lt o1 q), Nat.ne_of_gt (Nat.lt_of_le_of_lt o2 q), Nat.ne_of_gt (Nat.lt_of_le_of_lt oS q)⟩
  intro m
  induction m with
  | zero =>
    intro k h tk c acc as hm hk st kp hS ha hal hG hl
    have e : k = xs.size := by omega
    refine codeAny_builtin PySem.F.entry_extend_loop ?_
    rw [Around.under_plainId PySem.F.plain_extend_loop _]
    show wpAny _ A.in1 (pyNext (.ref z) >>= _) _ _ _
    apply wpAny_bind
    refine StM.done (s := { s with heap := h, toks := tk }) (A := A.in1) hh D D1 D2 st e (e.trans hsz) fun h' tk' k2 => wpAny_pure ?_
    dsimp only at k2 ⊢
    refine hR h' tk' acc c as (fun b o a1 a2 a3 a4 a5 q => k2 b o a2 a3 a4 a5 (kp b o a1 a2 a3 a4 a5 q)) (k2 S _ nz.symm nTO.symm ni1 ni2 hS) (by omega) ⟨hG.rise, hG.above, fun j a hj => ?_⟩ ha
    obtain ⟨x, y, e1, e2, e3⟩ := hG.pairs j a hj
    obtain ⟨b1, b2, b3, b4, _⟩ := hi (hG.above a (List.mem_of_getElem? hj))
    exact ⟨x, y, e1, e2, k2 a _ b1 b2 b3 b4 e3⟩
  | succ m ih =>
    intro k h tk c acc as hm hk st kp hS ha hal hG hl
    have lt : k < xs.size := by omega
    have lt2 : k < ys.size := by omega
    have sz : acc.size = k := by rw [← Array.length_toList, ha, List.length_map, hal]
    refine codeAny_builtin PySem.F.entry_extend_loop ?_
    rw [Around.under_plainId PySem.F.plain_extend_loop _]
    show wpAny _ A.in1 (pyNext (.ref z) >>= _) _ _ _
    apply wpAny_bind
    refine StM.item (s := { s with heap := h, toks := tk }) (A := A.in1) hh D D1 D2 st (Heap.lt_size hS) lt lt2 fun x y h' tk' hx hy st' hp hs k2 => ?_
    dsimp only at hp hs k2 ⊢
    have hS' := k2 S _ nz.symm nTO.symm ni1 ni2 hS
    have up : ∀ b o, b ≠ S → h'.get? b = some o → (h'.update S (Obj.mapSeq (·.push (Value.ref h.objs.size)))).get? b = some o := fun b o nb q => (Heap.get?_update_other _ _ (Ne.symm nb)).trans q
    have lS : S < h.objs.size := Heap.lt_size hS
    show wpAny _ A.in1 (updateSeq S (·.push (Value.ref h.objs.size)) >>= _) _ _ _
    apply wpAny_bind
    refine wpAny_updateSeq hS' rfl (wpAny_pure ⟨plainId_quiet PySem.F.plain_extend_loop _, ?_⟩) (by rw [sz]; omega) (by show (acc.push (Value.ref h.objs.size)).size ≤ sizeLine + 1; rw [Array.size_push, sz]; omega)
    refine ih (k + 1) _ tk' _ (acc.push (Value.ref h.objs.size)) (as ++ [h.objs.size]) (by omega) lt (st'.keep D1 D2 hh up nS) (fun b o a1 a2 a3 a4 a5 q => up b o a1 (k2 b o a2 a3 a4 a5 (kp b o a1 a2 a3 a4 a5 q))) (Heap.get?_update_self _ hS' rfl) (by rw [Array.toList_push, ha, List.map_append]; rfl) (by rw [List.length_append, hal]; rfl) ⟨?_, ?_, ?_⟩ ?_
    · refine List.pairwise_append.mpr ⟨hG.rise, List.pairwise_singleton _ _, fun a ha b hb => ?_⟩
      rw [List.mem_singleton.mp hb]
      exact hG.there ha
    · intro a ha
      rcases List.mem_append.mp ha with q | q
      · exact hG.above a q
      · rw [List.mem_singleton.mp q]
        exact hl
    · intro j b hj
      rcases Nat.lt_trichotomy j as.length with q | q | q
      · rw [List.getElem?_append_left q] at hj
        obtain ⟨x, y, e1, e2, e3⟩ := hG.pairs j b hj
        obtain ⟨b1, b2, b3, b4, b5⟩ := hi (hG.above b (List.mem_of_getElem? hj))
        exact ⟨x, y, e1, e2, up b _ b5 (k2 b _ b1 b2 b3 b4 e3)⟩
      · subst q
        have hb : h.objs.size = b := by simpa using hj
        subst hb
        exact ⟨_, _, by rw [hal]; exact hx, by rw [hal]; exact hy, up _ _ (Nat.ne_of_gt lS) hp⟩
      · have : (as ++ [h.objs.size])[j]? = none := List.getElem?_eq_none (by rw [List.length_append, List.length_singleton]; omega)
        rw [this] at hj
        cases hj
    · have e := up _ _ (Nat.ne_of_gt lS) hp
      exact Nat.lt_trans hl (Heap.lt_size e)
end
section
variable {prog : Program} {w : World} {A : Around} {E : Value → Shared → Prop} {s : Shared} {z TI TO i1 i2 : Addr} {fp1 fp2 : List Addr} {xs ys : Array Value} {St1 St2 : Nat → Heap → Prop}
theorem m_extend {R : Result → Shared → Prop} {S : Addr} (hh : A.handled = none) (D : ZipSep2 z TI TO i1 i2 fp1 fp2) (D1 : Dr prog w i1 fp1 xs St1) (D2 : Dr prog w i2 fp2 ys St2) (st : StM s.heap z TI TO i1 i2 St1 St2 S 0) (hz : IsZip s.heap z TI TO .none) (ns : z ≠ S ∧ TI ≠ S ∧ TO ≠ S ∧ S ∉ fp1 ∧ S ∉ fp2) (hlo : z ≤ S ∧ TO ≤ S ∧ i1 ≤ S ∧ i2 ≤ S)
    (c0 : Nat) (hS : s.heap.get? S = some { cls := .type "list", data := .seq #[] c0 }) (hsz : xs.size = ys.size) (hn : xs.size ≤ sizeLine) (res : Value)
    (hR : ∀ h' tk acc c as, (∀ b o, b ≠ S → b ≠ z → b ≠ TO → b ≠ i1 → b ≠ i2 → s.heap.get? b = some o → h'.get? b = some o) → h'.get? S = some { cls := .type "list", dict := none, data := .seq acc c, slots := #[] } → as.length = xs.size → Made xs ys S h' as → acc.toList = as.map Value.ref → R (.ok (.ret res)) { s with heap := h', toks := tk }) :
    wpAny (model prog w) A.in1 (Builtin.List.listExtendWith (.ref S) (.ref z) res)
      (fun fin s' => match fin with | .done f => R (.ok f) s' | .again c' => c'.quiet = true ∧ codeAny (model prog w) A c' R s') (fun e s' => R (.error e) s') s := by
  have ty : s.TypeIs (.ref z) "zip" := ⟨_, hz, rfl⟩
  have key : ∀ (h : Heap) (c1 tk : Nat), (∀ b o, b ≠ S → s.heap.get? b = some o → h.get? b = some o) → h.get? S = some { cls := .type "list", data := .seq #[] c1 } →
      codeAny (model prog w) A (.builtin "list.extend.loop" ⟨[.ref S, .ref z, res], []⟩) R { s with heap := h, toks := tk } := fun h c1 tk kp hS1 =>
    m_loop (s := s) (h0 := s.heap) (lo := S) hh D D1 D2 ns ⟨hlo.1, hlo.2.1, hlo.2.2.1, hlo.2.2.2, Nat.le_refl _⟩ hsz hn res hR xs.size 0 h tk c1 #[] [] (Nat.sub_zero _) (Nat.zero_le _) (st.keep D1 D2 hh kp ns) (fun b o a1 _ _ _ _ q => kp b o a1 q) hS1 rfl rfl
      ⟨List.Pairwise.nil, (fun _ ha => nomatch ha), (fun j a hj => by simp at hj)⟩ (Heap.lt_size hS1)
  unfold Builtin.List.listExtendWith
  apply wpAny_bind; refine wpAny_typeOf (T := "zip") ty ?_
  have e1 : Builtin.List.listSameRef (.ref S) (.ref z) = false := by simp [Builtin.List.listSameRef, ns.1.symm]
  have e2 : (Value.type "zip" == Value.type "list") = false := by decide
  have e3 : (Value.type "zip" == Value.type "tuple") = false := by decide
  simp only [e1, e2, e3, Bool.or_false, Bool.false_eq_true, if_false]
  apply wpAny_bind; refine wpAny_pyIter_zip hz ?_
  apply wpAny_bind; refine wpAny_holding (hint ty fun b => ?_)
  refine wpAny_ite_split (fun _ => ?_) (fun _ => wpAny_pure ⟨plainId_quiet PySem.F.plain_extend_loop _, key _ c0 _ (fun b o _ e => e) hS⟩)
  apply wpAny_bind; refine wpAny_rule ?_
  apply wpAny_bind
  show wpAny _ _ (updateSeq S (·.push .none) >>= fun _ => updateSeq S (·.pop)) _ _ _
  apply wpAny_bind; refine wpAny_updateSeq hS rfl ?_
  have hS2 := Heap.get?_update_self (Obj.mapSeq (·.push Value.none)) hS rfl
  refine wpAny_updateSeq (hz := by seq_fits) hS2 rfl ?_
  have hS3 := Heap.get?_update_self (Obj.mapSeq (·.pop)) hS2 rfl
  refine wpAny_pure ⟨plainId_quiet PySem.F.plain_extend_loop _, key _ _ _ (fun b o hb e => ?_) hS3⟩
  rw [Heap.get?_update_other _ _ (Ne.symm hb), Heap.get?_update_other _ _ (Ne.symm hb)]
  exact e
/-- list(z), z a zip that has given nothing -/
theorem m_list {Q : Value → Shared → Prop} (hh : A.handled = none) (D : ZipSep2 z TI TO i1 i2 fp1 fp2) (D1 : Dr prog w i1 fp1 xs St1) (D2 : Dr prog w i2 fp2 ys St2) (hz : IsZip s.heap z TI TO .none) (pr : IsPair s.heap TI (.ref i1) (.ref i2)) (ow : IsPair s.heap TO .none .none) (h1 : St1 0 s.heap) (h2 : St2 0 s.heap)
    (b1 : ∀ b ∈ fp1, b < s.heap.objs.size) (b2 : ∀ b ∈ fp2, b < s.heap.objs.size) (hsz : xs.size = ys.size) (hn : xs.size ≤ sizeLine)
    (hQ : ∀ h' tk acc c as, (∀ b o, b ≠ z → b ≠ TO → b ≠ i1 → b ≠ i2 → s.heap.get? b = some o → h'.get? b = some o) → h'.get? s.heap.objs.size = some { cls := .type "list", dict := none, data := .seq acc c, slots := #[] } → as.length = xs.size → Made xs ys s.heap.objs.size h' as → acc.toList = as.map Value.ref → Q (.ref s.heap.objs.size) { s with heap := h', toks := tk }) :
    wpAny (model prog w) A (call (.type "list") [.ref z]) Q E s := by
  refine callType_codes (Q₁ := fun obj s1 => obj = .ref s.heap.objs.size ∧ s1 = { s with heap := s.heap.push { cls := .type "list", data := .seq #[] } }) PySem.F.called_list (PySem.F.typeCall_list_1 _) PySem.F.entry_list_init (code_list_new _ ⟨rfl, rfl⟩) fun obj s1 hq => ?_
  obtain ⟨rfl, rfl⟩ := hq
  have hS : (s.heap.push { cls := .type "list", data := .seq #[] }).get? s.heap.objs.size = some { cls := .type "list", data := .seq #[] } := Heap.get?_push_size _ rfl
  have lt : ∀ {c o}, s.heap.get? c = some o → c < s.heap.objs.size := fun e => Heap.lt_size e
  have lz := lt hz
  have lTI := lt pr
  have lTO := lt ow
  have ns : z ≠ s.heap.objs.size ∧ TI ≠ s.heap.objs.size ∧ TO ≠ s.heap.objs.size ∧ s.heap.objs.size ∉ fp1 ∧ s.heap.objs.size ∉ fp2 :=
    ⟨Nat.ne_of_lt lz, Nat.ne_of_lt lTI, Nat.ne_of_lt lTO, fun q => Nat.lt_irrefl _ (b1 _ q), fun q => Nat.lt_irrefl _ (b2 _ q)⟩
  have pu : ∀ c o, s.heap.get? c = some o → (s.heap.push { cls := .type "list", data := .seq #[] }).get? c = some o := fun c o e => Heap.get?_push_of_some _ e
  have st : StM (s.heap.push { cls := .type "list", data := .seq #[] }) z TI TO i1 i2 St1 St2 s.heap.objs.size 0 := ⟨pu _ _ pr, ⟨_, _, pu _ _ ow⟩, (D1 A hh).frame _ _ _ h1 fun c _ o e => pu _ o e, (D2 A hh).frame _ _ _ h2 fun c _ o e => pu _ o e, .inl (pu _ _ hz)⟩
  refine ⟨⟨_, hS, rfl⟩, PySem.F.args_list_init_2 _ _, ?_⟩
  show wpAny _ _ (do let old ← Builtin.List.listItems (.ref s.heap.objs.size); Builtin.List.listUpdate (.ref s.heap.objs.size) (fun _ => #[]); letGo old.toList.reverse; Builtin.List.listExtendWith (.ref s.heap.objs.size) (.ref z) .none) _ _ _
  apply wpAny_bind
  unfold Builtin.List.listItems
  apply wpAny_bind; refine wpAny_seqItems hS rfl (wpAny_pure ?_)
  show wpAny _ _ (updateSeq s.heap.objs.size (fun _ => #[]) >>= fun _ => letGo (#[] : Array Value).toList.reverse >>= fun _ => Builtin.List.listExtendWith (.ref s.heap.objs.size) (.ref z) .none) _ _ _
  apply wpAny_bind; refine wpAny_updateSeq hS rfl ?_
  have hS2 := Heap.get?_update_self (Obj.mapSeq (fun _ => (#[] : Array Value))) hS rfl
  have oth : ∀ b o, b ≠ s.heap.objs.size → (s.heap.push { cls := .type "list", data := .seq #[] }).get? b = some o → ((s.heap.push { cls := .type "list", data := .seq #[] }).update s.heap.objs.size (Obj.mapSeq (fun _ => (#[] : Array Value)))).get? b = some o := fun b o nb q => by
    rw [Heap.get?_update_other _ _ (Ne.symm nb)]
    exact q
  apply wpAny_bind; refine wpAny_letGo ?_
  refine m_extend (A := A.in1) hh D D1 D2 (st.keep D1 D2 hh oth ns) (oth _ _ ns.1 (pu _ _ hz)) ns ⟨Nat.le_of_lt lz, Nat.le_of_lt lTO, Nat.le_of_lt (b1 _ D.mem1), Nat.le_of_lt (b2 _ D.mem2)⟩ _ hS2 hsz hn .none fun h' tk acc c as kp hS' hal hG ha => ?_
  exact ⟨rfl, hQ h' tk acc c as (fun b o a2 a3 a4 a5 q => kp b o (Nat.ne_of_lt (lt q)) a2 a3 a4 a5 (oth b o (Nat.ne_of_lt (lt q)) (pu b o q))) hS' hal hG ha⟩
end
/-- a can be gone through: its items are xs -/
structure Dra (prog : Program) (w : World) (h : Heap) (a : Addr) (xs : Array Value) : Prop where
  lt : a < h.objs.size
  ex : ∃ (o : Obj) (G : Heap → Prop), Begins (.ref a) o G ∧ G h ∧ ∀ N, a < N → ∃ St, Dr prog w N [N, a] xs St ∧ ∀ h', h'.get? N = some o → (∀ c o', h.get? c = some o' → h'.get? c = some o') → St 0 h'
theorem Dra.list {prog : Program} {w : World} {h : Heap} {a : Addr} {xs : Array Value} (hl : h.IsList a xs) : Dra prog w h a xs := by
  obtain ⟨o, ho, _⟩ := id hl
  exact ⟨Heap.lt_size ho, _, _, begins_list a xs, hl, fun N hN => ⟨_, fun A hh => Draws.list hh N a (Nat.ne_of_lt hN) xs, fun h' e k => ⟨⟨_, e, rfl, rfl⟩, hl.at fun o q => k a o q⟩⟩⟩
theorem Dra.tuple {prog : Program} {w : World} {h : Heap} {a : Addr} {xs : Array Value} (hl : h.IsTuple a xs) : Dra prog w h a xs := by
  obtain ⟨o, ho, _⟩ := id hl
  exact ⟨Heap.lt_size ho, _, _, begins_tuple a xs, hl, fun N hN => ⟨_, fun A hh => Draws.tuple hh N a (Nat.ne_of_lt hN) xs, fun h' e k => ⟨⟨_, e, rfl, rfl⟩, hl.at fun o q => k a o q⟩⟩⟩
section
variable {X : Cx}
theorem Dra.of {pins : List (Addr × Obj)} {σ : L2.St} {H : Hp} {s : Shared} {a : Addr} {xs : List V} (I : Inv X pins σ H s) (h : SqL X.K H a xs ∨ SqT X.K H a xs) : ∃ its : List Value, Vals xs its ∧ xs.length ≤ sizeLine ∧ Dra X.prog X.w s.heap a its.toArray := by
  rcases h with h | h
  · obtain ⟨its, rv, p, z⟩ := I.list h
    exact ⟨its, rv, by have := rv.length; omega, Dra.list p.isList⟩
  · obtain ⟨its, rv, p, z⟩ := I.tuple h
    exact ⟨its, rv, by have := rv.length; omega, Dra.tuple p⟩
/-- list(zip(a, b)), a and b lists or tuples -/
def tLZipM (K : PySem.W.Frag) (ta : TA) : TE := fun σ H Q => ta σ H fun vs H1 => ∃ (a b : Addr) (xs ys : List V), vs = [.ref a, .ref b] ∧ (SqL K H1 a xs ∨ SqT K H1 a xs) ∧ (SqL K H1 b ys ∨ SqT K H1 b ys) ∧ xs.length = ys.length ∧
  ∀ (H' : Hp) (p : Addr) (as : List Addr), Same H1 H' → H1 p = none → H' p = some (.lst (as.map V.ref)) → as.length = xs.length → (∀ (j : Nat) (c : Addr) (x y : V), as[j]? = some c → xs[j]? = some x → ys[j]? = some y → H1 c = none ∧ H' c = some (.tup [x, y])) → Q (.ref p) H'
theorem pe_listZipM {e e2 : Expr} {ta : TA} {p p2 q pos : Pos} (hg : Gl X "list") (hm : X.mg "list" = none) (hg2 : Gl X "zip") (hm2 : X.mg "zip" = none) (ha : PA X [e, e2] ta) (hc : X.calm = true := by rfl)
    (hs : starEach [e, e2] X.env = (false, eval e X.env) :: starEach [e2] X.env := by rfl) (hpl : (backTo q (starEach [e2] X.env)).any (·.1) = false := by rfl)
    (hs0 : starEach [.Call (.Name "zip" p2) [e, e2] [] q] X.env = (false, eval (.Call (.Name "zip" p2) [e, e2] [] q) X.env) :: starEach [] X.env := by rfl) :
    PE X (.Call (.Name "list" p) [.Call (.Name "zip" p2) [e, e2] [] q] [] pos) (tLZipM X.K ta) := by
  refine ⟨fun pins s σ H Q I h => ?_⟩
  refine Call_ (ld_blt I hg hm boot_list ?_)
  refine PyProof.Rows.callWith_type1 (PyProof.Rows.args_cons ?_ hs0) hs0 rfl
  refine Call_ (ld_blt I hg2 hm2 PyProof.Rows.boot_zip ?_)
  refine PyProof.Rows.callWith_type1 (thn (ha.run q pins s σ H _ I h) fun us s1 ⟨vs, H1, I1, r1, q1⟩ => ?_) hs hpl
  obtain ⟨a, b, xs, ys, ex, hqx, hqy, hl, q1⟩ := q1
  subst ex
  cases r1 with
  | cons r rr =>
    cases rr with
    | cons r' rr =>
      cases rr
      cases r
      cases r'
      obtain ⟨its, rv, z1, d1⟩ := Dra.of I1 hqx
      obtain ⟨its2, rv2, z2, d2⟩ := Dra.of I1 hqy
      have l1 := rv.length
      have l2 := rv2.length
      obtain ⟨lta, o1, G1, B1, g1, w1⟩ := d1
      obtain ⟨ltb, o2, G2, B2, g2, w2⟩ := d2
      obtain ⟨St1, D1, i1⟩ := w1 s1.heap.objs.size lta
      obtain ⟨St2, D2, i2⟩ := w2 (s1.heap.objs.size + 1) (Nat.lt_succ_of_lt ltb)
      refine zip_begins2 B1 B2 g1 g2 fun h' hz hTI hTO e1 e2 hsz hk => ?_
      refine PyProof.Rows.args_nil ?_
      refine m_list (s := { s1 with heap := h' }) (xs := its.toArray) (ys := its2.toArray) (I1.ok.hd hc) (zip_sep2 (fp1 := [a]) (fp2 := [b]) (fun c hc => by rw [List.mem_singleton.mp hc]; exact lta) (fun c hc => by rw [List.mem_singleton.mp hc]; exact ltb)) D1 D2 hz hTI hTO (i1 h' e1 hk) (i2 h' e2 hk)
        (fun c hc => ?_) (fun c hc => ?_) (by simp; omega) (by simp; omega) fun h2 tk acc c as kp hS hal hG hacc => ?_
      · show c < h'.objs.size
        rw [hsz]
        rcases List.mem_cons.mp hc with q | q
        · rw [q]
          exact Nat.lt_add_of_pos_right (by decide)
        · rw [List.mem_singleton.mp q]
          exact Nat.lt_of_lt_of_le lta (Nat.le_add_right _ _)
      · show c < h'.objs.size
        rw [hsz]
        rcases List.mem_cons.mp hc with q | q
        · rw [q]
          exact Nat.add_lt_add_left (by decide) _
        · rw [List.mem_singleton.mp q]
          exact Nat.lt_of_lt_of_le ltb (Nat.le_add_right _ _)
      dsimp only at kp hS hG ⊢
      rw [hsz] at hS hG ⊢
      have old : ∀ b o, s1.heap.get? b = some o → h2.get? b = some o := fun c o e => by
        have lt := Heap.lt_size e
        exact kp c o (Nat.ne_of_lt (Nat.lt_of_lt_of_le lt (Nat.le_add_right _ _))) (Nat.ne_of_lt (Nat.lt_of_lt_of_le lt (Nat.le_add_right _ _))) (Nat.ne_of_lt lt) (Nat.ne_of_lt (Nat.lt_of_lt_of_le lt (Nat.le_add_right _ _))) (hk c o e)
      obtain ⟨H', j1, j2, j3, j4, J⟩ := laid (tk := tk) I1 (by omega) rv rv2 hl old (Nat.le_add_right _ 5) hS (by simp at hal; omega) hG hacc
      exact ⟨.ref _, H', J, rfl, q1 H' _ as j1 j2 j3 (by simp at hal; omega) j4⟩
end
end LZ

/-! ### promises of defs that show lists and tuples as text: they want that no such showing is under way where they are called -/
namespace GL
open PySem PySem.Spec PyProof.Rows L2
/-- as a def's promise, where no showing is under way -/
structure FnG (P : Program) (w : World) (K : PySem.W.Frag) (mg : Str → Option Value) (base : Heap) (k : Nat) (f : Addr) (fd : FuncData) (ps : List Str) (sp : Sp) : Prop where
  args : ∀ vs H Q E, sp vs H Q E → vs.length = ps.length
  goes : ∀ (A : Around) (out : List Env) (s : Shared) (H : Hp) (ar : Args) (us : List Value) (vs : List V) (Q : VK) (E : XK), A.guards = some [] → Room k A → Env0 P w K mg base A out s H → BindsTo s fd ar (ps.zip us) → Vals vs us → sp vs H Q E →
    codeAny (model P w) A (.call (.ref f) ar) (CR CX0 out P w H s Q E) s
section
variable {P : Program} {w : World} {K : PySem.W.Frag} {mg : Str → Option Value} {base : Heap} {k : Nat} {f : Addr} {fd : FuncData} {ps : List Str} {sp : Sp}
theorem FnG.of (F : FnOk P w K mg base CX0 k f fd ps sp) : FnG P w K mg base k f fd ps sp := ⟨F.len, fun A out s H ar us vs Q E _ => F.run A out s H ar us vs Q E⟩
/-- by the body -/
theorem FnG.mk' {x qual : Str} {st : Stmt} {N : List Str} (F : Fun K x qual st f fd) (S : FnScope N ps (defScope st)) (hl : ∀ vs H Q E, sp vs H Q E → vs.length = ps.length)
    (hbody : ∀ (cdv : Value) (A : Around) (out : List Env) (s : Shared) (H : Hp) (vs : List V) (Q : VK) (E : XK), (A.deeper (envOfC qual (defScope st) s.heap.objs.size f cdv)).guards = some [] → Room k (A.deeper (envOfC qual (defScope st) s.heap.objs.size f cdv)) → sp vs H Q E →
      ∃ t, PSs (cxOf CX0 P w K mg base N qual (defScope st) f cdv A out s H E).nox (defBody st) t ∧ t { nx := fun _ G => Q .non G, rt := Q } (start N vs) H) : FnG P w K mg base (k + 1) f fd ps sp := by
  obtain ⟨_, _, _, _, _, _, cdv, _, _, efd, lk, hcd⟩ := F.ex
  subst efd
  refine ⟨hl, fun A out s H ar us vs Q E hg hr e0 hb rv hsp => ?_⟩
  have kin : K.In s.heap := e0.mod.kin.keeps fun b o z => (e0.bs b o z).1
  have nol : s.heap.NoLimit := e0.mod.nolimit.keeps fun b o z => (e0.bs b o z).1
  refine codeAny_call_function hr.depth (kin _ _ lk) rfl S.co S.gen rfl (PySem.W.codeRec_of kin hcd) (hb _ _ _ _ ?_)
  refine wpAny_newFunctionEnv_cells S.kind (fun ⟨n, v⟩ hy => (S.par n (List.of_mem_zip hy).1).elim .inl fun z => .inr ⟨z, PySem.W.cellsFrom_some _ _ _ (.inl z)⟩) fun env he s1 ic => ?_
  subst he
  refine ⟨nol.keeps ic.toInCall.keep, codeAny_func ?_⟩
  obtain ⟨t, ht, hq⟩ := hbody cdv A out s H vs Q E hg (hr.deeper _) hsp
  refine wpAny_mono (ht.nox.run [] s1 (start N vs) H _ (inv_start S hr.hd e0 (hl _ _ _ _ hsp) rv ic) hq) (fun fl s2 hs => ?_) fun e s2 hs => hs
  cases fl with
  | ret u =>
    obtain ⟨v, τ, H2, J, ru, z⟩ := hs
    exact ⟨v, H2, J.os, J.bare, J.base, J.hok, ru, z⟩
  | next =>
    obtain ⟨τ, H2, J, z⟩ := hs
    exact ⟨V.non, H2, J.os, J.bare, J.base, J.hok, rfl, z⟩
  | brk => exact hs.elim fun _ z => z.elim fun _ z => z.2.elim
  | cont => exact hs.elim fun _ z => z.elim fun _ z => z.2.elim
end
section
variable {X : Cx} {k : Nat} {f : Addr} {fd : FuncData} {ps : List Str} {sp : Sp} {x : Str} {p pos : Pos} {e : Expr} {es : List Expr} {t : TA}
/-- f(..) -/
theorem pe_callG (F : FnG X.prog X.w X.K X.mg X.base k f fd ps sp) (gd : X.A.guards = some []) (hr : Room k X.A) (hg : Gl X x) (hm : X.mg x = some (.ref f)) (hk : PySem.W.keepIn X.K (.ref f) = true) (hb : Binds X.K fd ps [])
    (ha : PA X (e :: es) t) (hdb : (x == ("__debug__" : Str)) = false := by decide) (he : starEach (e :: es) X.env = (false, eval e X.env) :: starEach es X.env := by rfl) (hpl : (backTo pos (starEach es X.env)).any (·.1) = false := by rfl) :
    PE X (.Call (.Name x p) (e :: es) [] pos) (tCall sp [] E0 t) := by
  refine ⟨fun pins s σ H Q I h => wpAny_Call_Name_kw (ld_glob I hg hm ?_ hdb)⟩
  refine PySem.W.callWith_K (h₀ := X.base) I.ok.mod.kin hk (thn (ha.run pos pins s σ H _ I h) fun us s1 ⟨vs, H1, J, rv, z⟩ => ⟨J.kIn, ?_⟩) he hpl
  have hl : (us ++ []).length = ps.length := by
    rw [List.append_nil, ← rv.length, ← F.args _ _ _ _ z, List.append_nil]
  refine wpAny_call (codeAny_mono (F.goes X.A X.stack s1 H1 ⟨us, []⟩ (us ++ []) (vs ++ []) Q E0 gd hr J.env0 (hb s1 us J.kIn hl) (rv.append .nil) z) fun r s2 hq => ?_)
  cases r with
  | error _ => exact hq.elim
  | ok fl =>
    cases fl with
    | ret u => exact J.after hq
    | next => exact hq.elim
    | brk => exact hq.elim
    | cont => exact hq.elim
end
/-! ### the top -/
section
variable {P : Program} {w : World} {K : PySem.W.Frag} {mg mb : Str → Option Value} {k : Nat} {fa a : Addr} {fd : FuncData} {x : Str} {sp : Sp} {s : Shared} {vs : List Value} {ns : List Int}
/-- what the law's call begins with: a view of the heap in which nothing but the script may be tracked -/
theorem view (KX : K.In s.heap) (hns : s.heap.Ns mainGlobals mg) (hb : s.heap.Ns builtinsNs mb) (hbb : ∀ y : Str, y ≠ "__name__" → mb y = bootBuiltins y) (hlim : s.heap.NoLimit) (hg : s.gens = #[])
    (ha : s.heap.get? a = some { cls := .type "list", data := .seq vs.toArray }) (H : Hp) (hok : HOk P w H s.heap) (hA : ∀ b, H b ≠ none → b = a) (hK : H a ≠ none → K.lookup a = none) :
    K.In (hidT s.heap H) ∧ (hidT s.heap H).Ns mainGlobals mg ∧ Env0 P w K mg (hidT s.heap H) callerA [] s H := by
  have spaces : ∀ {b : Addr} {m : Str → Option Value}, s.heap.Ns b m → (hidT s.heap H).Ns b m := fun {b m} z => by
    obtain ⟨o, es, ep, e, d, r⟩ := z
    refine ⟨o, es, ep, hidT_get e ?_, d, r⟩
    cases q : H b with
    | none => rfl
    | some _ =>
      have eb : b = a := hA b (by rw [q]; exact fun z => nomatch z)
      rw [eb, ha] at e
      cases e
      cases (show Data.seq vs.toArray _ = Data.dict es ep from d)
  have kin : K.In (hidT s.heap H) := fun b o e => hidT_get (KX b o e) (by
    cases q : H b with
    | none => rfl
    | some _ =>
      have nn : H b ≠ none := by rw [q]; exact fun z => nomatch z
      have eb := hA b nn
      rw [eb] at nn e
      rw [hK nn] at e
      cases e)
  obtain ⟨mc, c1, c2⟩ := hlim
  exact ⟨kin, spaces hns, rfl, ⟨kin, spaces hns, ⟨mb, spaces hb, hbb⟩, mc, spaces c1, c2⟩, fun b o e => of_hidT e, Nat.le_of_eq (hidT_size _ _), trivial, fun _ z => (nomatch z), hok, .of_eq hg⟩
theorem called (KX : K.In s.heap) (hns : s.heap.Ns mainGlobals mg) (hb : s.heap.Ns builtinsNs mb) (hbb : ∀ y : Str, y ≠ "__name__" → mb y = bootBuiltins y) (hlim : s.heap.NoLimit) (hg : s.gens = #[])
    (ha : s.heap.get? a = some { cls := .type "list", data := .seq vs.toArray }) (hi : IntsAre vs ns) (hl : ns.length ≤ sizeLine) (hr : Room k callerA)
    (F : ∀ bs : Heap, K.In bs → bs.Ns mainGlobals mg → FnG P w K mg bs k fa fd [x] sp) (hbind : ∀ (s : Shared) (u : Value), BindsTo s fd ⟨[u], []⟩ [(x, u)])
    (hsp : ∀ H : Hp, Only H → SqL K H a (ns.map V.int) → sp [.ref a] H (fun v _ => v = .bl true) E0) :
    codeAny (model P w) callerA (.call (.ref fa) ⟨[.ref a], []⟩) (fun r s' => r = .ok (.ret (.bool true)) ∧ OldK s.heap s'.heap ∧ s'.os = s.os ∧ AllBare s'.gens) s := by
  have rv := vals_ints hi
  have run : ∀ H : Hp, Only H → SqL K H a (ns.map V.int) → HOk P w H s.heap → (∀ b, H b ≠ none → b = a) → (H a ≠ none → K.lookup a = none) →
      codeAny (model P w) callerA (.call (.ref fa) ⟨[.ref a], []⟩) (fun r s' => r = .ok (.ret (.bool true)) ∧ OldK s.heap s'.heap ∧ s'.os = s.os ∧ AllBare s'.gens) s := fun H hO hS hok hA hK => by
    obtain ⟨k1, k2, e0⟩ := view (P := P) (w := w) KX hns hb hbb hlim hg ha H hok hA hK
    refine codeAny_mono ((F _ k1 k2).goes callerA [] s H ⟨[.ref a], []⟩ [.ref a] [.ref a] _ _ rfl hr e0 (hbind s (.ref a)) (.cons rfl .nil) (hsp H hO hS)) fun r s2 z => ?_
    cases r with
    | error _ => exact z.elim
    | ok fl =>
      cases fl with
      | next => exact z.elim
      | brk => exact z.elim
      | cont => exact z.elim
      | ret u =>
        obtain ⟨v, H2, os, bare, un, hok2, ru, ev⟩ := z
        cases (show v = .bl true from ev)
        cases (show u = Value.bool true from ru)
        refine ⟨rfl, OldK.of_keep fun b o e => ?_, os, bare⟩
        rcases hO b with q | ⟨ob, xs, q⟩
        · exact un.keep b o e q (fun z => nomatch z) (fun z => nomatch z)
        · obtain ⟨e1, _⟩ := hok b _ q
          obtain ⟨e2, _⟩ := hok2 b _ (un.frzs b ob _ q)
          rw [e] at e1
          cases e1
          exact e2
  by_cases hk : K.lookup a = none
  · refine run (fun b => if b = a then some (.frz { cls := .type "list", data := .seq vs.toArray } (.lst (ns.map V.int))) else none) (fun b => ?_) (.inl (.inr ⟨_, if_pos rfl⟩)) (fun b u z => ?_) (fun b z => ?_) fun _ => hk
    · by_cases eb : b = a
      · exact .inr ⟨_, _, if_pos eb⟩
      · exact .inl (if_neg eb)
    · by_cases eb : b = a
      · subst eb
        cases (if_pos rfl).symm.trans z
        exact ⟨ha, by rw [List.length_map]; exact hl, vs, _, rv, ha⟩
      · cases (if_neg eb).symm.trans z
    · by_cases eb : b = a
      · exact eb
      · exact absurd (if_neg eb) z
  · obtain ⟨o, ho⟩ := Option.ne_none_iff_exists'.mp hk
    have e := KX a o ho
    rw [ha] at e
    cases e
    exact run (fun _ => none) (fun _ => .inl rfl) (.inr ⟨_, vs.toArray, _, ho, rfl, rfl, rfl, by rw [List.size_toArray, hi.length]; exact hl, by simpa using rv⟩) (fun b u z => nomatch (show (none : Option HO) = some u from z)) (fun b z => absurd rfl z) fun z => absurd rfl z
end
/-- the law's own promise, from that of its def -/
theorem walkG {l : PySem.W.OpenLaw} {n k : Nat} {q : Program} {loose : List Str} {XP : (Str → Option Value) → Heap → Prop} {YP : World → Heap → Prop} {d : DefRec} {K : Params → PySem.W.Frag} {sp : World → Sp} {x : Str}
    (hn : l.most = some n) (hn2 : n ≤ sizeLine) (hdf : d.params.defaults = []) (hr : Room k callerA) (hY : ∀ (w : World) (h : Heap), YP w h → (K w.params).In h)
    (F : ∀ (w : World) (mg : Str → Option Value) (fa : Addr) (h : Heap), (K w.params).In h → h.Ns mainGlobals mg → mg d.name = some (.ref fa) →
      ∃ fd : FuncData, (∀ (s : Shared) (u : Value), BindsTo s fd ⟨[u], []⟩ [(x, u)]) ∧ ∀ bs : Heap, (K w.params).In bs → bs.Ns mainGlobals mg → FnG l.prog w (K w.params) mg bs k fa fd [x] (sp w))
    (hsp : ∀ (w : World) (H : Hp) (a : Addr) (ns : List Int), ns.length ≤ n → Only H → SqL (K w.params) H a (ns.map V.int) → sp w [.ref a] H (fun v _ => v = .bl true) E0) :
    PySem.W.WalkO q loose XP YP l.row.toRowW d [] (fun f vs => PySem.call f vs) := by
  refine Att.attach_call hn hdf fun w s0 s1 mg mb fa o pm cd doc a vs ns G Y ho hd hcd hmg hobj hints hlen hg => ?_
  obtain ⟨fd, hb, hF⟩ := F w mg fa _ (hY w _ Y) G.T.g hmg
  exact called (hY w _ Y) G.T.g G.T.b G.T.builtins G.T.nolimit hg hobj hints (Nat.le_trans hlen hn2) hr hF hb fun H hO hS => hsp w H a ns hlen hO hS
/-! ### str(thing), of anything -/
section
variable {X : Cx}
/-- as str() shows it -/
def strD : PyData → Str
  | .str z => z
  | d => d.shown
def rStrD (K : PySem.W.Frag) : List V → Hp → VK → Prop := fun xs H Q => ∃ (x : V) (d : PyData), xs = [x] ∧ Dp K H x d ∧ d.showable = true ∧ d.hasDict = false ∧ d.depth ≤ 60 ∧ d.shown.length ≤ sizeLine ∧ Q (.str (strD d)) H
theorem call_strD (gd : X.A.guards = some []) (hu : X.A.units + 64 < cLine) : CallR X (.type "str") (rStrD X.K) := by
  intro pins s σ H xs us Q I r h
  obtain ⟨x, d, rfl, hd, hs, hn, hdp, hz, q⟩ := h
  obtain ⟨u, rfl, ru⟩ := vals1 r
  have big : ∀ {as : List Addr} {a : Addr}, Reads s.heap (.ref a) d as → Q (.str d.shown) H → wpAny (model X.prog X.w) X.A (call (.type "str") [.ref a]) (EP X pins σ Q) X.xe s := fun rd q =>
    str_of_reads rd hs (PyData.noDict_hsm hn) gd (by omega) (fun _ _ e => e) (fun h' u tk hk => ⟨.str _, H, I.kept hk, ⟨_, rfl⟩, q⟩) hz
  cases hd with
  | non =>
    cases ru
    exact PySem.P.str_of_none ⟨.str _, H, I.tok _, ⟨_, rfl⟩, q⟩
  | bl b =>
    cases ru
    exact PySem.P.str_of_bool ⟨.str _, H, I.tok _, ⟨_, rfl⟩, q⟩
  | int i =>
    obtain ⟨t, rfl⟩ := ru
    exact PySem.P.str_of_int (of_decide_eq_true hs) ⟨.str _, H, I.tok _, ⟨_, rfl⟩, q⟩
  | str z =>
    obtain ⟨t, rfl⟩ := ru
    exact PySem.P.str_of_str ⟨.str z, H, I, ⟨t, rfl⟩, q⟩
  | lst hq ha =>
    obtain ⟨as, rd⟩ := Dp.reads I _ _ _ (.lst hq ha) ru
    cases ru
    exact big rd q
  | tup hq ha =>
    obtain ⟨as, rd⟩ := Dp.reads I _ _ _ (.tup hq ha) ru
    cases ru
    exact big rd q
end
end GL

set_option exponentiation.threshold 10000
namespace K32
open PySem PySem.Spec PyProof.Rows L2
/-! ### the text (by an own tool) -/
def topS (i : Nat) : Stmt := PySem.Challenge.pw_thinskin_k32_prices_at_places.main.body.getD i (.Pass ⟨0, 0, 0, 0⟩)
abbrev s_dot_of : Stmt := topS 1
theorem sc_dot_of : FnScope ["one", "other", "x1", "y1", "z1", "x2", "y2", "z2"] ["one", "other"] (defScope s_dot_of) := ⟨rfl, rfl, rfl, by decide +kernel, rfl, by decide +kernel, by decide +kernel⟩
abbrev s_price_at : Stmt := topS 3
theorem sc_price_at : FnScope ["planes", "place", "gaps", "n", "d", "gap"] ["planes", "place"] (defScope s_price_at) := ⟨rfl, rfl, rfl, by decide +kernel, rfl, by decide +kernel, by decide +kernel⟩
abbrev s_Lbox : Stmt := topS 5
theorem sc_Lbox : FnScope ["_law_cells", "_law_k", "_law_cell"] ["_law_cells", "_law_k"] (defScope s_Lbox) := ⟨rfl, rfl, rfl, by decide +kernel, rfl, by decide +kernel, by decide +kernel⟩
abbrev s_Ltake : Stmt := topS 6
theorem sc_Ltake : FnScope ["_law_box_here", "_law_many", "_law_found", "_law_once", "_law_twice"] ["_law_box_here", "_law_many"] (defScope s_Ltake) := ⟨rfl, rfl, rfl, by decide +kernel, rfl, by decide +kernel, by decide +kernel⟩
abbrev s_Lfolded : Stmt := topS 7
theorem sc_Lfolded : FnScope ["_law_script", "_law_many", "_law_cells", "_law_k", "_law_cell"] ["_law_script", "_law_many"] (defScope s_Lfolded) := ⟨rfl, rfl, rfl, by decide +kernel, rfl, by decide +kernel, by decide +kernel⟩
abbrev s_Ldot : Stmt := topS 8
theorem sc_Ldot : FnScope ["_law_one", "_law_other", "_law_x", "_law_y"] ["_law_one", "_law_other"] (defScope s_Ldot) := ⟨rfl, rfl, rfl, by decide +kernel, rfl, by decide +kernel, by decide +kernel⟩
abbrev s_Lshuffled : Stmt := topS 9
theorem sc_Lshuffled : FnScope ["_law_box_here", "_law_some", "_law_found", "_law_one"] ["_law_box_here", "_law_some"] (defScope s_Lshuffled) := ⟨rfl, rfl, rfl, by decide +kernel, rfl, by decide +kernel, by decide +kernel⟩
abbrev s_Lnumbers : Stmt := topS 10
theorem sc_Lnumbers : FnScope ["_law_box_here", "_law_most", "_law_k"] ["_law_box_here", "_law_most"] (defScope s_Lnumbers) := ⟨rfl, rfl, rfl, by decide +kernel, rfl, by decide +kernel, by decide +kernel⟩
abbrev s_Lrow : Stmt := topS 11
theorem sc_Lrow : FnScope ["_law_box_here", "_law_place", "_law_found", "_law_turn", "_law_across", "_law_depth"] ["_law_box_here", "_law_place"] (defScope s_Lrow) := ⟨rfl, rfl, rfl, by decide +kernel, rfl, by decide +kernel, by decide +kernel⟩
abbrev s_Ldue : Stmt := topS 12
theorem sc_Ldue : FnScope ["_law_row_here", "_law_place", "_law_total", "_law_across", "_law_depth", "_law_off", "_law_side"] ["_law_row_here", "_law_place"] (defScope s_Ldue) := ⟨rfl, rfl, rfl, by decide +kernel, rfl, by decide +kernel, by decide +kernel⟩
abbrev s_law : Stmt := topS 13
theorem sc_law : FnScope ["_law_script", "_law_cells", "_law_k", "_law_box_here", "_law_turn", "_law_place", "_law_row_here", "_law_other", "_law_kept", "_law_due_here", "_law_found", "_law_through", "_law_across", "_law_depth"] ["_law_script"] (defScope s_law) := ⟨rfl, rfl, rfl, by decide +kernel, rfl, by decide +kernel, by decide +kernel⟩
structure Df (K : PySem.W.Frag) (mg : Str → Option Value) (x : Str) (st : Stmt) (f : Addr) (fd : FuncData) (ps : List Str) : Prop where
  F : Fun K x x st f fd
  g : mg x = some (.ref f)
  b : Binds K fd ps []
structure Tx (K : PySem.W.Frag) (mg : Str → Option Value) where
  a_dot_of : Addr
  f_dot_of : FuncData
  a_price_at : Addr
  f_price_at : FuncData
  a_Lbox : Addr
  f_Lbox : FuncData
  a_Ltake : Addr
  f_Ltake : FuncData
  a_Lfolded : Addr
  f_Lfolded : FuncData
  a_Ldot : Addr
  f_Ldot : FuncData
  a_Lshuffled : Addr
  f_Lshuffled : FuncData
  a_Lnumbers : Addr
  f_Lnumbers : FuncData
  a_Lrow : Addr
  f_Lrow : FuncData
  a_Ldue : Addr
  f_Ldue : FuncData
  a_law : Addr
  f_law : FuncData
  d_dot_of : Df K mg "dot_of" s_dot_of a_dot_of f_dot_of ["one", "other"]
  d_price_at : Df K mg "price_at" s_price_at a_price_at f_price_at ["planes", "place"]
  d_Lbox : Df K mg "_law_box" s_Lbox a_Lbox f_Lbox ["_law_cells", "_law_k"]
  d_Ltake : Df K mg "_law_take" s_Ltake a_Ltake f_Ltake ["_law_box_here", "_law_many"]
  d_Lfolded : Df K mg "_law_folded" s_Lfolded a_Lfolded f_Lfolded ["_law_script", "_law_many"]
  d_Ldot : Df K mg "_law_dot" s_Ldot a_Ldot f_Ldot ["_law_one", "_law_other"]
  d_Lshuffled : Df K mg "_law_shuffled" s_Lshuffled a_Lshuffled f_Lshuffled ["_law_box_here", "_law_some"]
  d_Lnumbers : Df K mg "_law_numbers" s_Lnumbers a_Lnumbers f_Lnumbers ["_law_box_here", "_law_most"]
  d_Lrow : Df K mg "_law_row" s_Lrow a_Lrow f_Lrow ["_law_box_here", "_law_place"]
  d_Ldue : Df K mg "_law_due" s_Ldue a_Ldue f_Ldue ["_law_row_here", "_law_place"]
  d_law : Df K mg "law" s_law a_law f_law ["_law_script"]
  z_abs : mg "abs" = none
  z_bool : mg "bool" = none
  z_enumerate : mg "enumerate" = none
  z_int : mg "int" = none
  z_isinstance : mg "isinstance" = none
  z_len : mg "len" = none
  z_list : mg "list" = none
  z_max : mg "max" = none
  z_range : mg "range" = none
  z_str : mg "str" = none
  z_sum : mg "sum" = none
  z_tuple : mg "tuple" = none
  z_zip : mg "zip" = none

/-! ### the law's own helpers -/
theorem itePos {c A B : Prop} [Decidable c] (hc : c) (h : A) : if c then A else B := by
  rw [if_pos hc]
  exact h
theorem iteNeg {c A B : Prop} [Decidable c] (hc : ¬ c) (h : B) : if c then A else B := by
  rw [if_neg hc]
  exact h
theorem bl_true {Q : VK} {b : Bool} {H : Hp} (e : b = true) (h : Q (.bl true) H) : Q (.bl b) H := by
  rw [e]
  exact h
theorem same_new {H : Hp} {p : Addr} {o : HO} (h : H p = none) : Same H (upd H p o) := fun b x e => by
  rw [upd_ne (ne_of_none e h)]
  exact e
theorem same_put {H H' : Hp} {p : Addr} {o : HO} (s : Same H H') (h : H p = none) : Same H (upd H' p o) := fun b x e => by
  rw [upd_ne (ne_of_none e h)]
  exact s b x e
theorem Same.tup {K : PySem.W.Frag} {H H' : Hp} {a : Addr} {xs : List V} (e : Same H H') (h : SqT K H a xs) : SqT K H' a xs := by
  rcases h with (h | ⟨o, h⟩) | h
  · exact .inl (.inl (e _ _ h))
  · exact .inl (.inr ⟨o, e _ _ h⟩)
  · exact .inr h
theorem b01 (b : Bool) : (-(2 ^ 64) < (if b = true then 1 else 0 : Int)) ∧ ((if b = true then 1 else 0 : Int) < 2 ^ 64) := by cases b <;> decide
theorem b01' (b : Bool) : 0 ≤ (if b = true then 1 else 0 : Int) := by cases b <;> decide
/-- the box: three numbers; the third at most n -/
def BoxO (o : HO) (n : Nat) : Prop := ∃ b0 b1 b2 : Int, o = .lst [.int b0, .int b1, .int b2] ∧ 0 ≤ b0 ∧ 0 ≤ b1 ∧ b1 < 2147483629 ∧ 0 ≤ b2 ∧ b2 ≤ n
theorem BoxO.mono {o : HO} {n m : Nat} (h : BoxO o n) (l : n ≤ m) : BoxO o m := by
  obtain ⟨b0, b1, b2, e, h0, h1, h2, h3, h4⟩ := h
  exact ⟨b0, b1, b2, e, h0, h1, h2, h3, by omega⟩
section
variable {P : Program} {w : World} {K : PySem.W.Frag} {mg : Str → Option Value} {base : Heap}
def spBox (K : PySem.W.Frag) : Sp := fun vs H Q _ => ∃ (a : Addr) (cs : List Int) (k : Nat), vs = [.ref a, .int k] ∧ SqL K H a (cs.map V.int) ∧ k ≤ 1000 ∧ ∀ p o, H p = none → BoxO o 0 → Q (.ref p) (upd H p o)
theorem ok_Lbox (T : Tx K mg) : FnOk P w K mg base CX0 1 T.a_Lbox T.f_Lbox ["_law_cells", "_law_k"] (spBox K) := by
  refine T.d_Lbox.F.ok sc_Lbox (fun vs H Q E h => ?_) (fun cdv A outer s H vs Q E hr h => ?_)
  · obtain ⟨a, cs, k, rfl, _⟩ := h
    rfl
  · obtain ⟨a, cs, k, rfl, hs, hk, q⟩ := h
    refine ⟨_, (pss_cons
    (ps_set (i := 2) sc_Lbox.nd rfl (.inl rfl) (pe_ifExp (pt_cmpR op_lt (pv 1) (pe_callB call_len_seq (by rfl) T.z_len (by decide +kernel) (pa_cons (pv 0) pa_nil)) (nomark _)) (pe_ix ix_list (pv 0) (pv 1) (fun _ _ => rfl)) pe_int))
    (pss_one
    (ps_ret (pe_lst (pa_cons (pe_op op_mul (pe_callB call_abs (by rfl) T.z_abs (by decide +kernel) (pa_cons (pv 2) pa_nil)) (pe_callTy call_int1 (by rfl) T.z_int (by decide +kernel) (pa_cons (pe_cmpR op_ge (pe_callB call_abs (by rfl) T.z_abs (by decide +kernel) (pa_cons (pv 2) pa_nil)) (pe_op op_pow pe_int pe_int) (nomark _)) pa_nil))) (pa_cons (pe_op op_mod (pe_op op_add (pv 2) (pe_op op_mul pe_int (pv 1))) pe_int) (pa_cons pe_int pa_nil))))))), ?_⟩
    have rest : ∀ c : Int, (tRet (tLst (tCons (tOp (rI CMul fun i j => .int (i * j)) (tCB (fun xs H Q => ∃ i, xs = [.int i] ∧ Q (.int (if i < 0 then -i else i)) H) (tCons (tVar 2) tNil)) (tCB (fun xs H Q => (∃ i, xs = [.int i] ∧ Q (.int i) H) ∨ ∃ k, xs = [.bl k] ∧ Q (.int (if k then 1 else 0)) H) (tCons (tOp (rI0 fun i j => .bl (decide (j ≤ i))) (tCB (fun xs H Q => ∃ i, xs = [.int i] ∧ Q (.int (if i < 0 then -i else i)) H) (tCons (tVar 2) tNil)) (tOp (rI CPow fun i j => .int (i ^ j.toNat)) (tC (.int 10)) (tC (.int 18)))) tNil)))
        (tCons (tOp (rI (fun _ j => 0 < j) fun i j => .int (i % j)) (tOp (rI0 fun i j => .int (i + j)) (tVar 2) (tOp (rI CMul fun i j => .int (i * j)) (tC (.int 7907)) (tVar 1))) (tC (.int 2147483629))) (tCons (tC (.int 0)) tNil))))) { nx := fun _ H' => Q .non H', rt := Q } [some (.ref a), some (.int k), some (.int c)] H := by
      intro c
      have hab : 0 ≤ (if c < 0 then -c else c) := by split <;> omega
      refine ⟨_, rfl, _, rfl, _, rfl, _, rfl, _, _, rfl, rfl, ⟨by decide, by decide, by decide⟩, _, _, rfl, rfl, .inr ⟨_, rfl, _, _, rfl, rfl, ?_, ?_⟩⟩
      · exact .inr (b01 _)
      · refine ⟨_, rfl, _, rfl, _, _, rfl, rfl, .inl ⟨by decide, by decide⟩, _, _, rfl, rfl, _, _, rfl, rfl, (show (0 : Int) < 2147483629 by decide), by show 3 ≤ sizeLine; decide, fun p hp => ?_⟩
        refine q p _ hp ⟨_, _, 0, rfl, ?_, Int.emod_nonneg _ (by decide), Int.emod_lt_of_pos _ (by decide), by decide, by decide⟩
        exact Int.mul_nonneg hab (b01' _)
    refine ⟨_, rfl, _, rfl, a, _, rfl, .inl hs, _, _, rfl, rfl, _, rfl, ite2 (fun e => ?_) (fun e => ?_)⟩
    · have hlt : k < cs.length := by
        have := of_decide_eq_true e
        rw [List.length_map] at this
        omega
      refine ⟨_, rfl, _, rfl, a, _, _, .int cs[k], rfl, rfl, hs, atI_nat (by rw [List.getElem?_map, List.getElem?_eq_getElem hlt]; rfl), ?_⟩
      exact rest _
    · exact rest 0
def spTake : Sp := fun vs H Q _ => ∃ (a : Addr) (o : HO) (n : Nat) (m : Int), vs = [.ref a, .int m] ∧ H a = some o ∧ BoxO o n ∧ n < 2 ^ 40 ∧ 0 < m ∧ m.natAbs < 2 ^ 8000 ∧ ∀ (r : Int) (o' : HO), 0 ≤ r → r < m → BoxO o' (n + 1) → Q (.int r) (upd H a o')
theorem ok_Ltake (T : Tx K mg) : FnOk P w K mg base CX0 1 T.a_Ltake T.f_Ltake ["_law_box_here", "_law_many"] spTake := by
  refine T.d_Ltake.F.ok sc_Ltake (fun vs H Q E h => ?_) (fun cdv A outer s H vs Q E hr h => ?_)
  · obtain ⟨a, o, n, m, rfl, _⟩ := h
    rfl
  · obtain ⟨a, o, n, m, rfl, ho, ⟨b0, b1, b2, rfl, h0, h1, h2, h3, h4⟩, hn, hm, hw, q⟩ := h
    refine ⟨_, (pss_cons
    (ps_if (pt_cmpR op_gt (pe_ix ix_list (pv 0) pe_int (fun _ _ => rfl)) pe_int (nomark _)) (pss_cons
        (ps_set (i := 2) sc_Ltake.nd rfl (.inl rfl) (pe_op op_mod (pe_ix ix_list (pv 0) pe_int (fun _ _ => rfl)) (pv 1)))
        (pss_cons
        (ps_asg (pe_op op_fdivW (pe_ix ix_list (pv 0) pe_int (fun _ _ => rfl)) (pv 1)) (pg_sub (pv 0) pe_int set_list))
        (pss_one
        (ps_ret (pv 2))))) pss_nil)
    (pss_cons
    (ps_asg (pe_op op_add (pe_ix ix_list (pv 0) pe_int (fun _ _ => rfl)) pe_int) (pg_sub (pv 0) pe_int set_list))
    (pss_cons
    (ps_set (i := 3) sc_Ltake.nd rfl (.inl rfl) (pe_op op_mod (pe_op op_mul (pe_op op_add (pe_ix ix_list (pv 0) pe_int (fun _ _ => rfl)) (pe_op op_mul pe_int (pe_ix ix_list (pv 0) pe_int (fun _ _ => rfl)))) pe_int) pe_int))
    (pss_cons
    (ps_set (i := 4) sc_Ltake.nd rfl (.inl rfl) (pe_op op_mod (pe_op op_add (pv 3) (pe_op op_mul (pe_op op_mul (pe_ix ix_list (pv 0) pe_int (fun _ _ => rfl)) (pe_ix ix_list (pv 0) pe_int (fun _ _ => rfl))) pe_int)) pe_int))
    (pss_one
    (ps_ret (pe_op op_mod (pe_op op_fdivW (pe_op op_mod (pe_op op_mul (pe_op op_mod (pe_op op_pow (pv 4) pe_int) pe_int) pe_int) pe_int) pe_int) (pv 1)))))))), ?_⟩
    refine ⟨_, rfl, _, _, _, _, rfl, rfl, SqL.of ho, atI_nat (j := 0) rfl, _, _, rfl, rfl, _, rfl, ite2 (fun e => ?_) (fun e => ?_)⟩
    · refine ⟨_, rfl, _, _, _, _, rfl, rfl, SqL.of ho, atI_nat (j := 0) rfl, _, rfl, _, _, rfl, rfl, hm, ?_⟩
      refine ⟨_, rfl, _, _, _, _, rfl, rfl, SqL.of ho, atI_nat (j := 0) rfl, _, rfl, _, _, rfl, rfl, wide_div hm hw (by decide) (by decide), _, rfl, a, _, _, 0, rfl, rfl, ho, rfl, ?_⟩
      exact ⟨_, rfl, q _ _ (Int.emod_nonneg _ (by omega)) (Int.emod_lt_of_pos _ hm) ⟨b0 / m, b1, b2, rfl, Int.ediv_nonneg h0 (by omega), h1, h2, h3, by omega⟩⟩
    · have hb2 : b2 + 1 < 2 ^ 41 := by
        have : (n : Int) < 2 ^ 40 := by exact_mod_cast hn
        omega
      refine ⟨_, rfl, _, _, _, _, rfl, rfl, SqL.of ho, atI_nat (j := 2) rfl, _, _, rfl, rfl, _, rfl, a, _, _, 2, rfl, rfl, ho, rfl, ?_⟩
      have S1 : SqL K (upd H a (.lst [.int b0, .int b1, .int (b2 + 1)])) a [.int b0, .int b1, .int (b2 + 1)] := SqL.of upd_same
      refine ⟨_, rfl, _, _, _, _, rfl, rfl, S1, atI_nat (j := 1) rfl, _, rfl, _, _, _, _, rfl, rfl, S1, atI_nat (j := 2) rfl, _, _, rfl, rfl, .inl ⟨by decide, by decide⟩, _, _, rfl, rfl, _, _, rfl, rfl, .inr ⟨by decide, by decide⟩, _, _, rfl, rfl, (show (0 : Int) < 2147483647 by decide), ?_⟩
      refine ⟨_, rfl, _, rfl, _, _, _, _, rfl, rfl, S1, atI_nat (j := 2) rfl, _, rfl, _, _, _, _, rfl, rfl, S1, atI_nat (j := 2) rfl, _, _, rfl, rfl, .inl ⟨by omega, by omega⟩, _, _, rfl, rfl, .inr ⟨by decide, by decide⟩, _, _, rfl, rfl, _, _, rfl, rfl, (show (0 : Int) < 2147483587 by decide), ?_⟩
      refine ⟨_, rfl, _, _, rfl, rfl, ⟨by decide, by decide, ?_⟩, _, _, rfl, rfl, (show (0 : Int) < 1999999973 by decide), _, _, rfl, rfl, .inr ⟨by decide, by decide⟩, _, _, rfl, rfl, (show (0 : Int) < 2147483563 by decide), _, _, rfl, rfl, wide_div (b := 7) (by decide) (by decide) (by decide) (by decide), _, rfl, _, _, rfl, rfl, hm, ?_⟩
      · generalize hx : (((b1 + 40009 * (b2 + 1)) * 48271 % 2147483647 + (b2 + 1) * (b2 + 1) * 7919) : Int) = x
        have y1 := Int.emod_nonneg x (show (2147483587 : Int) ≠ 0 by decide)
        have y2 := Int.emod_lt_of_pos x (show (0 : Int) < 2147483587 by decide)
        show (x % 2147483587).natAbs < 2 ^ 64
        omega
      · exact q _ _ (Int.emod_nonneg _ (by omega)) (Int.emod_lt_of_pos _ hm) ⟨b0, b1, b2 + 1, rfl, h0, h1, h2, by omega, by omega⟩
end

section
variable {P : Program} {w : World} {K : PySem.W.Frag} {mg : Str → Option Value} {base : Heap}
theorem cut_int {ns : List Int} {lo hi : Option Int} {i : Nat} {x : V} (h : (cutV (ns.map V.int) lo hi)[i]? = some x) : ∃ n : Int, x = .int n := by
  have hm := List.mem_of_getElem? h
  unfold cutV at hm
  have h2 := List.mem_of_mem_drop (List.mem_of_mem_take hm)
  obtain ⟨n, _, e⟩ := List.mem_map.mp h2
  exact ⟨n, e.symm⟩
theorem cut_lo {ns : List Int} {m : Nat} {hi : Option Int} {i : Nat} (h : i < (cutV (ns.map V.int) (some (m : Int)) hi).length) : m < ns.length := by
  unfold cutV at h
  rw [List.length_take, List.length_drop, HT.sIx_nat, List.length_map] at h
  omega
theorem cut_to {ns : List Int} {m : Nat} : cutV (ns.map V.int) none (some (m : Int)) = (ns.take m).map V.int := by
  unfold cutV
  rw [HT.sIx_none, HT.sIx_nat, List.drop_zero, Nat.sub_zero, List.map_take, List.length_map]
  rcases Nat.le_total m ns.length with h | h
  · rw [Nat.min_eq_left h]
  · rw [Nat.min_eq_right h, List.take_of_length_le (by simp), List.take_of_length_le (by simpa using h)]
def spFold (K : PySem.W.Frag) : Sp := fun vs H Q _ => ∃ (a : Addr) (ns : List Int) (m : Nat), vs = [.ref a, .int m] ∧ SqL K H a (ns.map V.int) ∧ ns.length ≤ 63 ∧ 0 < m ∧ m ≤ 63 ∧ ∀ H' p (cs : List Int), Same H H' → H p = none → H' p = some (.lst (cs.map V.int)) → cs.length ≤ m → Q (.ref p) H'
theorem ok_Lfolded (T : Tx K mg) : FnOk P w K mg base CX0 1 T.a_Lfolded T.f_Lfolded ["_law_script", "_law_many"] (spFold K) := by
  refine T.d_Lfolded.F.ok sc_Lfolded (fun vs H Q E h => ?_) (fun cdv A outer s H vs Q E hr h => ?_)
  · obtain ⟨a, cs, k, rfl, _⟩ := h
    rfl
  · obtain ⟨a, ns, m, rfl, hS, hl, hm, hm2, q⟩ := h
    have hm' : (0 : Int) < (m : Int) := by omega
    refine ⟨_, (pss_cons
    (ps_set (i := 2) sc_Lfolded.nd rfl (.inl rfl) (pe_callTy call_list_of (by rfl) T.z_list (by decide +kernel) (pa_cons (pe_slice sl_list (pv 0) po_none (po_some (pv 1))) pa_nil)))
    (pss_cons
    (ps_for PassesOwn.never rfl (pi_enum (by rfl) T.z_enumerate (pa_cons (pe_slice sl_list (pv 0) (po_some (pv 1)) (po_some pe_int)) pa_nil)) (pg_tup rfl (pgs_cons (pg_name (i := 3) sc_Lfolded.nd rfl (.inl rfl)) (pgs_cons (pg_name (i := 4) sc_Lfolded.nd rfl (.inl rfl)) pgs_nil))) (pss_one
        (ps_asg (pe_op op_add (pe_ix ix_list (pv 2) (pe_op op_mod (pv 3) (pv 1)) (fun _ _ => rfl)) (pe_op op_mul (pv 4) (pe_op op_add (pv 3) pe_int))) (pg_sub (pv 2) (pe_op op_mod (pv 3) (pv 1)) set_list))))
    (pss_one
    (ps_ret (pv 2))))), ?_⟩
    refine ⟨_, rfl, _, rfl, m, rfl, a, _, rfl, hS, fun u hu => ⟨u, _, rfl, .inl (SqL.of upd_same), fun c hc => ?_⟩⟩
    rw [cut_to] at *
    have s1 : Same H (upd (upd H u (.lst ((ns.take m).map V.int))) c (.lst ((ns.take m).map V.int))) := same_put (same_new hu) ((same_new hu).free hc)
    have nc : H c = none := (same_new hu).free hc
    refine ⟨_, rfl, _, rfl, _, rfl, 63, rfl, a, _, rfl, Same.seq s1 hS, fun d hd => ⟨d, _, rfl, SqL.of upd_same, ?_⟩⟩
    have ndc : d ≠ c := fun e => by
      subst e
      rw [upd_same] at hd
      cases hd
    refine for_it (walk_enum (xs := cutV (ns.map V.int) (some (m : Int)) (some 63))) (fun i σ H3 => ∃ (cs : List Int) (y3 y4 : Option V), σ = [some (.ref a), some (.int m), some (.ref c), y3, y4] ∧ Same H H3 ∧ H3 c = some (.lst (cs.map V.int)) ∧ cs.length = min m ns.length ∧ H3 d = some (.lst (cutV (ns.map V.int) (some (m : Int)) (some 63))))
      ⟨ns.take m, none, none, rfl, s1.trans (same_new hd), ?_, by simp, upd_same⟩ (fun i σ H3 _ h => ?_) (fun i x σ H3 H4 hi h hy => ?_) (fun σ H3 h => ?_)
    · rw [upd_ne ndc.symm, upd_same]
    · obtain ⟨cs, y3, y4, _, _, _, _, h5⟩ := h
      exact SqL.of h5
    · obtain ⟨cs, y3, y4, rfl, sm, hcs, hcl, hd3⟩ := h
      obtain ⟨t, x1, x2, rfl, nt, rfl, e1, e2⟩ := hy
      cases e1
      obtain ⟨v, rfl⟩ := cut_int e2
      have hmn := cut_lo hi
      have hcm : cs.length = m := by omega
      refine ⟨t, _, rfl, SqT.of upd_same, rfl, _, _, rfl, _, _, rfl, rfl, ?_⟩
      have hct : (upd H3 t (.tup [V.int (i : Nat), .int v])) c = some (.lst (cs.map V.int)) := by
        rw [upd_ne (ne_of_none hcs nt)]
        exact hcs
      have hj0 : (i : Int) % (m : Int) = ((i % m : Nat) : Int) := by simp
      have hj1 : i % m < cs.length := by rw [hcm]; exact Nat.mod_lt _ hm
      have hb : (i : Int) < 1000 := by
        have h1 := cutV_length (ns.map V.int) (some (m : Int)) (some 63)
        rw [List.length_map] at h1
        omega
      refine ⟨_, rfl, _, rfl, _, rfl, _, _, rfl, rfl, hm', c, _, _, .int cs[i % m], rfl, rfl, SqL.of hct, ?_, ?_⟩
      · rw [hj0]
        exact atI_nat (by rw [List.getElem?_map, List.getElem?_eq_getElem hj1]; rfl)
      · refine ⟨_, rfl, _, rfl, _, _, rfl, rfl, _, _, rfl, rfl, .inr ⟨by omega, by omega⟩, _, _, rfl, rfl, _, rfl, _, rfl, _, rfl, _, _, rfl, rfl, hm', c, _, _, i % m, rfl, rfl, hct, ?_, ?_⟩
        · rw [hj0, List.length_map]
          unfold ixN
          rw [if_pos (by omega), if_pos (by omega), Int.toNat_natCast]
        · refine ⟨cs.set (i % m) (cs[i % m] + v * ((i : Int) + 2)), _, _, rfl, ?_, ?_, ?_, ?_⟩
          · exact same_put (sm.trans (same_new nt)) nc
          · rw [upd_same, List.map_set]
          · rw [List.length_set]
            exact hcl
          · rw [upd_ne ndc, upd_ne (ne_of_none hd3 nt)]
            exact hd3
    · obtain ⟨cs, y3, y4, rfl, sm, hcs, hcl, _⟩ := h
      exact ⟨_, rfl, q _ _ cs sm nc hcs (by omega)⟩
end

theorem at_ints {xs : List Int} {r : Int} (h0 : 0 ≤ r) (h1 : r < xs.length) : ∃ v, v ∈ xs ∧ atI (xs.map V.int) r = some (.int v) := by
  obtain ⟨j, rfl⟩ := Int.eq_ofNat_of_zero_le h0
  have hj : j < xs.length := by omega
  exact ⟨xs[j], List.getElem_mem hj, atI_nat (by rw [List.getElem?_map, List.getElem?_eq_getElem hj]; rfl)⟩
theorem at_mem {xs : List V} {r : Int} (h0 : 0 ≤ r) (h1 : r < xs.length) : ∃ v, v ∈ xs ∧ atI xs r = some v := by
  obtain ⟨j, rfl⟩ := Int.eq_ofNat_of_zero_le h0
  have hj : j < xs.length := by omega
  exact ⟨xs[j], List.getElem_mem hj, atI_nat (List.getElem?_eq_getElem hj)⟩
/-- all but a stays -/
def But (a : Addr) (H H' : Hp) : Prop := ∀ b o, H b = some o → b ≠ a → H' b = some o
theorem But.trans {a : Addr} {H H1 H2 : Hp} (h : But a H H1) (h' : But a H1 H2) : But a H H2 := fun b o e n => h' b o (h b o e n) n
theorem But.put {a : Addr} {H : Hp} {o : HO} : But a H (upd H a o) := fun b x e n => by
  rw [upd_ne n]
  exact e
theorem But.of {a : Addr} {H H' : Hp} (s : Same H H') : But a H H' := fun b o e _ => s b o e
theorem But.refl {a : Addr} {H : Hp} : But a H H := fun b o e _ => e
theorem getL {α β : Type} {f : α → β} {xs : List α} {i : Nat} {y : β} (h : (xs.map f)[i]? = some y) : ∃ x, xs[i]? = some x ∧ y = f x := by
  rw [List.getElem?_map] at h
  cases e : xs[i]? with
  | none => rw [e] at h; cases h
  | some x => rw [e] at h; exact ⟨x, rfl, (Option.some.inj h).symm⟩
theorem getS {α : Type} {xs : List α} {i : Nat} (h : i < xs.length) : ∃ x, xs[i]? = some x := ⟨xs[i], List.getElem?_eq_getElem h⟩
theorem i_seq {t u : TS} {D : Ends} {σ : L2.St} {H : Hp} (h : t { D with nx := u D } σ H) : tSeq t u D σ H := h
theorem i_asg {te : TE} {g : TG} {D : Ends} {σ : L2.St} {H : Hp} (h : te σ H fun x H1 => g x σ H1 D.nx) : tAsg te g D σ H := h
theorem i_ret {te : TE} {D : Ends} {σ : L2.St} {H : Hp} (h : te σ H D.rt) : tRet te D σ H := h

section
variable {P : Program} {w : World} {K : PySem.W.Frag} {mg : Str → Option Value} {base : Heap}
theorem walk_zipT {a b : Addr} {xs ys : List V} {n : Nat} (hn : n = min xs.length ys.length) : Walk (RZ.ItzT K a b) n (fun H => SqT K H a xs ∧ SqT K H b ys) (YPair (fun i => xs[i]?) (fun i => ys[i]?)) := by
  subst hn
  refine ⟨fun i _ hi q => ?_, fun _ q => ⟨xs, ys, q.1, q.2, by omega⟩, fun i H v H' _ q y => ?_⟩
  · have h1 : i < xs.length := by omega
    have h2 : i < ys.length := by omega
    exact ⟨xs, ys, xs[i], ys[i], q.1, q.2, by simp [h1], by simp [h2]⟩
  · obtain ⟨T, x, z, h1, h2, h3, h4, h5⟩ := y
    exact ⟨T, x, z, h1, h2, h3, h4 xs q.1, h5 ys q.2⟩
end

/-! ### vectors -/
abbrev V3 := Int × Int × Int
@[reducible] def tv (v : V3) : List V := [.int v.1, .int v.2.1, .int v.2.2]
def sub3 (u v : V3) : V3 := (u.1 - v.1, u.2.1 - v.2.1, u.2.2 - v.2.2)
def cross3 (u v : V3) : V3 := (u.2.1 * v.2.2 - u.2.2 * v.2.1, u.2.2 * v.1 - u.1 * v.2.2, u.1 * v.2.1 - u.2.1 * v.1)
def dot3 (u v : V3) : Int := u.1 * v.1 + u.2.1 * v.2.1 + u.2.2 * v.2.2
def Bz (n : Nat) (v : V3) : Prop := v.1.natAbs < 2 ^ n ∧ v.2.1.natAbs < 2 ^ n ∧ v.2.2.natAbs < 2 ^ n
def NewT (H : Hp) (Q : VK) (xs : List V) : Prop := ∀ H' p, Same H H' → H p = none → H' p = some (.tup xs) → Q (.ref p) H'
theorem pow_le {a b : Nat} (h : a ≤ b) : (2 : Nat) ^ a ≤ 2 ^ b := Nat.pow_le_pow_right (by decide) h
theorem Bz.mono {n m : Nat} {v : V3} (h : Bz n v) (l : n ≤ m) : Bz m v := ⟨Nat.lt_of_lt_of_le h.1 (pow_le l), Nat.lt_of_lt_of_le h.2.1 (pow_le l), Nat.lt_of_lt_of_le h.2.2 (pow_le l)⟩
theorem lt_sub {x y : Int} {n : Nat} (hx : x.natAbs < 2 ^ n) (hy : y.natAbs < 2 ^ n) : (x - y).natAbs < 2 ^ (n + 1) := by
  have e : (2 : Nat) ^ (n + 1) = 2 ^ n * 2 := Nat.pow_succ 2 n
  omega
theorem lt_add {x y : Int} {n : Nat} (hx : x.natAbs < 2 ^ n) (hy : y.natAbs < 2 ^ n) : (x + y).natAbs < 2 ^ (n + 1) := by
  have e : (2 : Nat) ^ (n + 1) = 2 ^ n * 2 := Nat.pow_succ 2 n
  omega
theorem lt_up {x : Int} {n m : Nat} (h : x.natAbs < 2 ^ n) (l : n ≤ m) : x.natAbs < 2 ^ m := Nat.lt_of_lt_of_le h (pow_le l)
theorem Bz.sub {n : Nat} {u v : V3} (hu : Bz n u) (hv : Bz n v) : Bz (n + 1) (sub3 u v) := ⟨lt_sub hu.1 hv.1, lt_sub hu.2.1 hv.2.1, lt_sub hu.2.2 hv.2.2⟩
theorem Bz.cross {n : Nat} {u v : V3} (hu : Bz n u) (hv : Bz n v) : Bz (n + n + 1) (cross3 u v) :=
  ⟨lt_sub (wide_lt hu.2.1 hv.2.2) (wide_lt hu.2.2 hv.2.1), lt_sub (wide_lt hu.2.2 hv.1) (wide_lt hu.1 hv.2.2), lt_sub (wide_lt hu.1 hv.2.1) (wide_lt hu.2.1 hv.1)⟩
theorem Bz.dot {n : Nat} {u v : V3} (hu : Bz n u) (hv : Bz n v) : (dot3 u v).natAbs < 2 ^ (n + n + 2) := lt_add (lt_add (wide_lt hu.1 hv.1) (wide_lt hu.2.1 hv.2.1)) (lt_up (wide_lt hu.2.2 hv.2.2) (by omega))
theorem mul4 {x y : Int} (hx : x.natAbs < 2 ^ 4000) (hy : y.natAbs < 2 ^ 4000) : CMulW x y := wide_mul hx hy (by decide) (by decide) (by decide)
def spSub : Sp := fun vs H Q _ => ∃ (a b : Addr) (u v : V3), vs = [.ref a, .ref b] ∧ H a = some (.tup (tv u)) ∧ H b = some (.tup (tv v)) ∧ NewT H Q (tv (sub3 u v))
def spCross : Sp := fun vs H Q _ => ∃ (a b : Addr) (u v : V3), vs = [.ref a, .ref b] ∧ H a = some (.tup (tv u)) ∧ H b = some (.tup (tv v)) ∧ Bz 4000 u ∧ Bz 4000 v ∧ NewT H Q (tv (cross3 u v))
def spDot : Sp := fun vs H Q _ => ∃ (a b : Addr) (u v : V3), vs = [.ref a, .ref b] ∧ H a = some (.tup (tv u)) ∧ H b = some (.tup (tv v)) ∧ Bz 4000 u ∧ Bz 4000 v ∧ ∀ H', Same H H' → Q (.int (dot3 u v)) H'
/-- a comprehension each of whose turns gives what out has there, leaving all that stood as it was -/
theorem lc_map {J : It} {n : Nat} {G : Hp → Prop} {Y : Nat → Hp → V → Hp → Prop} (w : Walk J n G Y) {g : TG} {te : TE} {vs : List Nat} {σ : L2.St} {H1 : Hp} {D : Addr} {Qd : Hp → Prop} (out : List V) (hn : out.length = n) (hz : n < 100000) (nD : H1 D = none) (hG : ∀ H, Same H1 H → G H)
    (hs : ∀ (i : Nat) (x : V) (H H' : Hp) (v : V) (Kc : VK), i < n → out[i]? = some v → Same H1 H → Y i H x H' → (∀ H4, Same H H4 → Kc v H4) → g x (wipe σ vs) H' fun σ2 H2 => wipe σ2 vs = wipe σ vs ∧ te σ2 H2 Kc) (hd : ∀ H, Same H1 H → H D = some (.lst out) → Qd H) :
    ∃ W : Nat → Nat → Hp → Prop, (∃ m, W 0 m (upd H1 D (.lst []))) ∧ ∀ i m H, W i m H →
      (J.stop i H ∧ Qd H) ∨ (J.go i H ∧ ∃ Nx : Hp → Prop, (∀ H', Nx H' → ∃ m', m' < m ∧ W (i + 1) m' H') ∧ ∀ x H', J.yld i H x H' → g x (wipe σ vs) H' fun σ2 H2 => wipe σ2 vs = wipe σ vs ∧ tYes σ2 H2 fun b H3 =>
        if b = true then te σ2 H3 fun y H4 => ∃ acc, H4 D = some (.lst acc) ∧ acc.length < sizeLine ∧ Nx (upd H4 D (.lst (acc ++ [y]))) else Nx H3) := by
  refine lc_it w (fun i H => Same H1 H ∧ H D = some (.lst (out.take i))) ⟨same_new nD, upd_same⟩ (fun i H _ h => hG H h.1) (fun i x H H' hi h hy => ?_) (fun H h => ?_)
  · have hi2 : i < out.length := by omega
    refine hs i x H H' out[i] _ hi (List.getElem?_eq_getElem hi2) h.1 hy fun H4 s4 => ?_
    refine ⟨_, s4 _ _ h.2, ?_, same_put (h.1.trans s4) nD, ?_⟩
    · rw [List.length_take]
      exact Nat.lt_of_le_of_lt (Nat.min_le_left _ _) (Nat.lt_trans hi (Nat.lt_of_lt_of_le hz (by decide)))
    · rw [upd_same, List.take_add_one, List.getElem?_eq_getElem hi2]
      rfl
  · have h2 := h.2
    rw [List.take_of_length_le (by omega)] at h2
    exact hd H h.1 h2
theorem get3 {x y z v : V} {i : Nat} (h : [x, y, z][i]? = some v) : (i = 0 ∧ v = x) ∨ (i = 1 ∧ v = y) ∨ (i = 2 ∧ v = z) := by
  match i, h with
  | 0, h => exact .inl ⟨rfl, (Option.some.inj h).symm⟩
  | 1, h => exact .inr (.inl ⟨rfl, (Option.some.inj h).symm⟩)
  | 2, h => exact .inr (.inr ⟨rfl, (Option.some.inj h).symm⟩)
  | i + 3, h => simp at h

section
variable {P : Program} {w : World} {K : PySem.W.Frag} {mg : Str → Option Value} {base : Heap}
theorem ok_dot_of (T : Tx K mg) : FnOk P w K mg base CX0 1 T.a_dot_of T.f_dot_of ["one", "other"] spDot := by
  refine T.d_dot_of.F.ok sc_dot_of (fun vs H Q E h => ?_) (fun cdv A outer s H vs Q E hr h => ?_)
  · obtain ⟨a, b, u, v, rfl, _⟩ := h
    rfl
  · obtain ⟨a, b, u, v, rfl, ha, hb, zu, zv, q⟩ := h
    refine ⟨_, (pss_cons
    (ps_asg (pv 0) (pg_tup rfl (pgs_cons (pg_name (i := 2) sc_dot_of.nd rfl (.inl rfl)) (pgs_cons (pg_name (i := 3) sc_dot_of.nd rfl (.inl rfl)) (pgs_cons (pg_name (i := 4) sc_dot_of.nd rfl (.inl rfl)) pgs_nil)))))
    (pss_cons
    (ps_asg (pv 1) (pg_tup rfl (pgs_cons (pg_name (i := 5) sc_dot_of.nd rfl (.inl rfl)) (pgs_cons (pg_name (i := 6) sc_dot_of.nd rfl (.inl rfl)) (pgs_cons (pg_name (i := 7) sc_dot_of.nd rfl (.inl rfl)) pgs_nil)))))
    (pss_one
    (ps_ret (pe_op op_add (pe_op op_add (pe_op op_mulW (pv 2) (pv 5)) (pe_op op_mulW (pv 3) (pv 6))) (pe_op op_mulW (pv 4) (pv 7))))))), ?_⟩
    refine ⟨_, rfl, a, _, rfl, SqT.of ha, rfl, _, _, rfl, _, _, rfl, _, _, rfl, rfl, ?_⟩
    refine ⟨_, rfl, b, _, rfl, SqT.of hb, rfl, _, _, rfl, _, _, rfl, _, _, rfl, rfl, ?_⟩
    refine ⟨_, rfl, _, rfl, _, _, rfl, rfl, mul4 zu.1 zv.1, _, rfl, _, rfl, _, _, rfl, rfl, mul4 zu.2.1 zv.2.1, _, _, rfl, rfl, _, rfl, _, rfl, _, _, rfl, rfl, mul4 zu.2.2 zv.2.2, _, _, rfl, rfl, ?_⟩
    exact q _ (Same.refl _)
end

section
variable {P : Program} {w : World} {K : PySem.W.Frag} {mg : Str → Option Value} {base : Heap}
theorem ok_Ldot (T : Tx K mg) : FnOk P w K mg base CX0 1 T.a_Ldot T.f_Ldot ["_law_one", "_law_other"] spDot := by
  refine T.d_Ldot.F.ok sc_Ldot (fun vs H Q E h => ?_) (fun cdv A outer s H vs Q E hr h => ?_)
  · obtain ⟨a, b, u, v, rfl, _⟩ := h
    rfl
  · obtain ⟨a, b, u, v, rfl, ha, hb, zu, zv, q⟩ := h
    refine ⟨_, (pss_one
    (ps_ret (pe_callB (cr_sum rfl) (by rfl) T.z_sum (by decide +kernel) (pa_cons (pe_lc (own := [("_law_x", 2), ("_law_y", 3)]) (g := (gTup K 2 (gCons (gName 2) (gCons (gName 3) gNil)))) (tt := tYes) rfl sc_Ldot.nd (RZ.pi_zipA (by rfl) T.z_zip (pa_cons (pv 0) (pa_cons (pv 1) pa_nil))) (blkOk_by (own := [("_law_x", 2), ("_law_y", 3)]) (N := ["_law_one", "_law_other", "_law_x", "_law_y"]) (sc := defScope s_Ldot) (by decide +kernel)) (fun _ _ _ _ _ => (pg_tup rfl (pgs_cons (pg_name (i := 2) sc_Ldot.nd rfl (.inl rfl) (.inr rfl)) (pgs_cons (pg_name (i := 3) sc_Ldot.nd rfl (.inl rfl) (.inr rfl)) pgs_nil)))) (fun _ _ _ _ _ => pts_nil) (fun _ _ _ _ _ => (pe_op op_mulW (pv 2) (pv 3)))) pa_nil)))), ?_⟩
    refine ⟨_, rfl, _, rfl, a, b, _, _, rfl, .inr ⟨SqT.of ha, SqT.of hb, fun D hD => ?_⟩⟩
    refine lc_map (walk_zipT (xs := tv u) (ys := tv v) (n := 3) rfl) [.int (u.1 * v.1), .int (u.2.1 * v.2.1), .int (u.2.2 * v.2.2)] rfl (by decide) hD (fun H3 s3 => ⟨SqT.of (s3 _ _ ha), SqT.of (s3 _ _ hb)⟩) (fun i x H3 H4 o Kc hi ho s3 hy k => ?_) (fun H3 s3 h3 => ?_)
    · obtain ⟨t, x1, x2, rfl, nt, rfl, e1, e2⟩ := hy
      refine ⟨t, _, rfl, SqT.of upd_same, rfl, _, _, rfl, _, _, rfl, rfl, rfl, ?_⟩
      rcases get3 ho with ⟨rfl, rfl⟩ | ⟨rfl, rfl⟩ | ⟨rfl, rfl⟩ <;> cases e1 <;> cases e2
      · exact ⟨_, rfl, _, rfl, _, _, rfl, rfl, mul4 zu.1 zv.1, k _ (same_new nt)⟩
      · exact ⟨_, rfl, _, rfl, _, _, rfl, rfl, mul4 zu.2.1 zv.2.1, k _ (same_new nt)⟩
      · exact ⟨_, rfl, _, rfl, _, _, rfl, rfl, mul4 zu.2.2 zv.2.2, k _ (same_new nt)⟩
    · refine ⟨D, [u.1 * v.1, u.2.1 * v.2.1, u.2.2 * v.2.2], rfl, SqL.of h3, ?_⟩
      have e : ([u.1 * v.1, u.2.1 * v.2.1, u.2.2 * v.2.2] : List Int).sum = dot3 u v := by
        simp [dot3, Int.add_assoc]
      rw [e]
      exact q _ s3
end

/-! ### things of any kind, with their data -/
inductive Td (S : Addr → Prop) (H : Hp) : L2.V → PyData → Prop
  | non : Td S H .non .none
  | bl (b : Bool) : Td S H (.bl b) (.bool b)
  | int (i : Int) : Td S H (.int i) (.int i)
  | str (z : Str) : Td S H (.str z) (.str z)
  | lst {b : Addr} {zs : List (L2.V × PyData)} {d : PyData} (ne : ¬ S b) (e : H b = some (.lst (zs.map Prod.fst))) (ed : d = .list (zs.map Prod.snd)) (h : ∀ z ∈ zs, Td S H z.1 z.2) : Td S H (.ref b) d
  | tup {b : Addr} {zs : List (L2.V × PyData)} {d : PyData} (ne : ¬ S b) (e : H b = some (.tup (zs.map Prod.fst))) (ed : d = .tuple (zs.map Prod.snd)) (h : ∀ z ∈ zs, Td S H z.1 z.2) : Td S H (.ref b) d
theorem Td.but {S : Addr → Prop} {H H' : Hp} {v : L2.V} {d : PyData} (s : ∀ b o, H b = some o → ¬ S b → H' b = some o) (h : Td S H v d) : Td S H' v d := by
  induction h with
  | non => exact .non
  | bl b => exact .bl b
  | int i => exact .int i
  | str z => exact .str z
  | lst ne e ed _ ih => exact .lst ne (s _ _ e ne) ed ih
  | tup ne e ed _ ih => exact .tup ne (s _ _ e ne) ed ih
theorem Td.wk {S S' : Addr → Prop} {H : Hp} {v : L2.V} {d : PyData} (k : ∀ b, S' b → S b) (h : Td S H v d) : Td S' H v d := by
  induction h with
  | non => exact .non
  | bl b => exact .bl b
  | int i => exact .int i
  | str z => exact .str z
  | lst ne e ed _ ih => exact .lst (fun z => ne (k _ z)) e ed ih
  | tup ne e ed _ ih => exact .tup (fun z => ne (k _ z)) e ed ih
/-- one place more that no part of it is, for nothing stood there -/
theorem Td.also {S : Addr → Prop} {H : Hp} {v : L2.V} {d : PyData} {c : Addr} (nc : H c = none) (h : Td S H v d) : Td (fun b => S b ∨ b = c) H v d := by
  induction h with
  | non => exact .non
  | bl b => exact .bl b
  | int i => exact .int i
  | str z => exact .str z
  | lst ne e ed _ ih => exact .lst (fun z => z.elim ne fun z => by rw [z, nc] at e; cases e) e ed ih
  | tup ne e ed _ ih => exact .tup (fun z => z.elim ne fun z => by rw [z, nc] at e; cases e) e ed ih
theorem dpAll {K : PySem.W.Frag} {H : Hp} : ∀ {zs : List (L2.V × PyData)}, (∀ z ∈ zs, Dp K H z.1 z.2) → DpAll K H (zs.map Prod.fst) (zs.map Prod.snd)
  | [], _ => .nil
  | z :: zs, h => .cons (h z List.mem_cons_self) (dpAll fun y hy => h y (List.mem_cons_of_mem _ hy))
theorem Td.dp {K : PySem.W.Frag} {S : Addr → Prop} {H : Hp} {v : L2.V} {d : PyData} (h : Td S H v d) : Dp K H v d := by
  induction h with
  | non => exact .non
  | bl b => exact .bl b
  | int i => exact .int i
  | str z => exact .str z
  | lst ne e ed _ ih =>
    rw [ed]
    exact .lst (SqL.of e) (dpAll ih)
  | tup ne e ed _ ih =>
    rw [ed]
    exact .tup (SqT.of e) (dpAll ih)
/-- numbers below 2 ^ B, at most n deep, no wild signs -/
inductive Fi (B : Nat) : Nat → PyData → Prop
  | non {n : Nat} : Fi B n .none
  | bl {n : Nat} (b : Bool) : Fi B n (.bool b)
  | int {n : Nat} {i : Int} (h : i.natAbs < 2 ^ B) : Fi B n (.int i)
  | str {n : Nat} {z : Str} (h : ∀ c ∈ z.cps.toList, c < 16 ^ 8) : Fi B n (.str z)
  | lst {n : Nat} {ds : List PyData} (h : ∀ d ∈ ds, Fi B n d) : Fi B (n + 1) (.list ds)
  | tup {n : Nat} {ds : List PyData} (h : ∀ d ∈ ds, Fi B n d) : Fi B (n + 1) (.tuple ds)
theorem Fi.up {B n : Nat} {d : PyData} (h : Fi B n d) : ∀ {B' n' : Nat}, B ≤ B' → n ≤ n' → Fi B' n' d := by
  induction h with
  | non => intro B' n' _ _; exact .non
  | bl b => intro B' n' _ _; exact .bl b
  | int h => intro B' n' hb _; exact .int (Nat.lt_of_lt_of_le h (Nat.pow_le_pow_right (by decide) hb))
  | str h => intro B' n' _ _; exact .str h
  | lst _ ih =>
    intro B' n' hb hn
    obtain ⟨m, rfl⟩ : ∃ m, n' = m + 1 := ⟨n' - 1, by omega⟩
    exact .lst fun d hd => ih d hd hb (by omega)
  | tup _ ih =>
    intro B' n' hb hn
    obtain ⟨m, rfl⟩ : ∃ m, n' = m + 1 := ⟨n' - 1, by omega⟩
    exact .tup fun d hd => ih d hd hb (by omega)
theorem depthAll_le {n : Nat} : ∀ {ds : List PyData}, (∀ d ∈ ds, d.depth ≤ n) → PyData.depthAll ds ≤ n
  | [], _ => Nat.zero_le _
  | d :: ds, h => by
    show max d.depth (PyData.depthAll ds) ≤ n
    exact Nat.max_le.mpr ⟨h d List.mem_cons_self, depthAll_le fun y hy => h y (List.mem_cons_of_mem _ hy)⟩
theorem Fi.depth {B n : Nat} {d : PyData} (h : Fi B n d) : d.depth ≤ n := by
  induction h with
  | non => exact Nat.zero_le _
  | bl b => exact Nat.zero_le _
  | int h => exact Nat.zero_le _
  | str h => exact Nat.zero_le _
  | lst _ ih => exact Nat.succ_le_succ (depthAll_le ih)
  | tup _ ih => exact Nat.succ_le_succ (depthAll_le ih)
theorem showAll : ∀ {ds : List PyData}, (∀ d ∈ ds, d.showable = true) → PyData.showableAll ds = true
  | [], _ => rfl
  | d :: ds, h => by
    show (d.showable && PyData.showableAll ds) = true
    rw [h d List.mem_cons_self, showAll fun y hy => h y (List.mem_cons_of_mem _ hy)]
    rfl
theorem Fi.show {B n : Nat} {d : PyData} (h : Fi B n d) (hB : B ≤ 1900) : d.showable = true := by
  induction h with
  | non => rfl
  | bl b => rfl
  | @int n i h =>
    show decide (i.natAbs.log2 < 1920) = true
    rw [decide_eq_true_iff]
    by_cases z : i.natAbs = 0
    · rw [z]; decide
    · exact (Nat.log2_lt z).mpr (Nat.lt_of_lt_of_le h (Nat.pow_le_pow_right (by decide) (by omega)))
  | str h => rfl
  | lst _ ih => exact showAll ih
  | tup _ ih => exact showAll ih
theorem dictAll : ∀ {ds : List PyData}, (∀ d ∈ ds, d.hasDict = false) → PyData.hasDictAll ds = false
  | [], _ => rfl
  | d :: ds, h => by
    show (d.hasDict || PyData.hasDictAll ds) = false
    rw [h d List.mem_cons_self, dictAll fun y hy => h y (List.mem_cons_of_mem _ hy)]
    rfl
theorem Fi.nodict {B n : Nat} {d : PyData} (h : Fi B n d) : d.hasDict = false := by
  induction h with
  | non => rfl
  | bl b => rfl
  | int h => rfl
  | str h => rfl
  | lst _ ih => exact dictAll ih
  | tup _ ih => exact dictAll ih
theorem sum_shown : ∀ {ds : List PyData}, (∀ d ∈ ds, d.shown.length ≤ 12 * d.weight + 9) → ((PyData.shownAll ds).map (·.length)).sum + 2 * ds.length ≤ 12 * PyData.weightAll ds
  | [], _ => Nat.le_refl _
  | d :: ds, h => by
    have h1 := h d List.mem_cons_self
    have h2 := sum_shown fun y hy => h y (List.mem_cons_of_mem _ hy)
    simp only [PyData.shownAll, PyData.weightAll, List.map_cons, List.sum_cons, List.length_cons]
    omega
theorem len_text (i : Int) : (Str.ofString (toString i)).length ≤ (PyData.int i).weight + 2 := by
  rw [PySem.ofString_length]
  have := int_text_length_le (a := i) (k := i.natAbs.log2 + 1) (by omega) (by omega)
  by_cases z : i = 0
  · subst z
    decide
  · have e : (PyData.int i).weight = i.natAbs.log2 + 1 := by
      show (if i == 0 then 0 else i.natAbs.log2 + 1) = _
      rw [if_neg (by simpa using z)]
    omega
theorem Fi.len {B n : Nat} {d : PyData} (h : Fi B n d) : d.shown.length ≤ 12 * d.weight + 9 := by
  induction h with
  | non => exact Nat.le_trans (show (PyData.none.shown).length ≤ 9 by decide) (Nat.le_add_left _ _)
  | bl b => exact Nat.le_trans (show ((PyData.bool b).shown).length ≤ 9 by cases b <;> decide) (Nat.le_add_left _ _)
  | @int n i h =>
    have := len_text i
    show (Str.ofString (toString i)).length ≤ _
    omega
  | @str n z h =>
    have e := StrLaws.reprText_len z h
    have e2 : z.length = z.cps.size := rfl
    simp only [PyData.shown, PyData.weight]
    omega
  | @lst n ds _ ih =>
    have h1 := sum_shown ih
    have h2 := listText_len_le (PyData.shownAll ds)
    have h3 := PyData.shownAll_length ds
    simp only [PyData.shown, PyData.weight]
    omega
  | @tup n ds _ ih =>
    have h1 := sum_shown ih
    have h2 := tupleText_len_le (PyData.shownAll ds)
    have h3 := PyData.shownAll_length ds
    simp only [PyData.shown, PyData.weight]
    omega
/-- str(thing) -/
theorem str_ok {K : PySem.W.Frag} {S : Addr → Prop} {H : Hp} {v : L2.V} {d : PyData} {B n : Nat} {Q : VK} (h : Td S H v d) (f : Fi B n d) (hB : B ≤ 1900) (hn : n ≤ 60) (hw : d.weight ≤ 1000000) (q : Q (.str (GL.strD d)) H) : GL.rStrD K [v] H Q :=
  ⟨v, d, rfl, h.dp, f.show hB, f.nodict, Nat.le_trans f.depth hn, Nat.le_trans f.len (Nat.le_trans (show 12 * d.weight + 9 ≤ 13000000 by omega) (by decide)), q⟩
/-! ### weights -/
abbrev wz (zs : List (L2.V × PyData)) : Nat := PyData.weightAll (zs.map Prod.snd)
theorem wz_cons (z : L2.V × PyData) (zs : List (L2.V × PyData)) : wz (z :: zs) = z.2.weight + 1 + wz zs := rfl
theorem wz_append : ∀ (xs ys : List (L2.V × PyData)), wz (xs ++ ys) = wz xs + wz ys
  | [], ys => by simp [wz, PyData.weightAll]
  | x :: xs, ys => by
    rw [List.cons_append, wz_cons, wz_cons, wz_append xs ys]
    omega
theorem wz_take (zs : List (L2.V × PyData)) (i : Nat) : wz (zs.take i) ≤ wz zs := by
  have e := wz_append (zs.take i) (zs.drop i)
  rw [List.take_append_drop] at e
  omega
theorem wz_drop (zs : List (L2.V × PyData)) (i : Nat) : wz (zs.drop i) ≤ wz zs := by
  have e := wz_append (zs.take i) (zs.drop i)
  rw [List.take_append_drop] at e
  omega
theorem wz_reverse : ∀ zs : List (L2.V × PyData), wz zs.reverse = wz zs
  | [] => rfl
  | z :: zs => by
    have e : wz [z] = z.2.weight + 1 + 0 := rfl
    have e2 := wz_cons z zs
    rw [List.reverse_cons, wz_append, wz_reverse zs]
    omega
theorem wz_len : ∀ zs : List (L2.V × PyData), zs.length ≤ wz zs
  | [] => Nat.le_refl _
  | z :: zs => by
    have := wz_len zs
    rw [wz_cons, List.length_cons]
    omega
theorem wz_mem : ∀ {zs : List (L2.V × PyData)} {z : L2.V × PyData}, z ∈ zs → z.2.weight + 1 ≤ wz zs
  | y :: zs, z, h => by
    rw [wz_cons]
    rcases List.mem_cons.mp h with h | h
    · rw [h]
      omega
    · have := wz_mem h
      omega
theorem wz_set : ∀ {zs : List (L2.V × PyData)} {j : Nat} {z y : L2.V × PyData}, zs[j]? = some z → wz (zs.set j y) + z.2.weight = wz zs + y.2.weight
  | x :: zs, 0, z, y, h => by
    cases h
    rw [List.set_cons_zero, wz_cons, wz_cons]
    omega
  | x :: zs, j + 1, z, y, h => by
    have := wz_set (zs := zs) (j := j) (z := z) (y := y) (by simpa using h)
    rw [List.set_cons_succ, wz_cons, wz_cons]
    omega
/-- a part of a row -/
def cutZ (zs : List (L2.V × PyData)) (lo hi : Option Int) : List (L2.V × PyData) := (zs.drop (HT.sIx zs.length 0 lo)).take (HT.sIx zs.length zs.length hi - HT.sIx zs.length 0 lo)
theorem cut_map (zs : List (L2.V × PyData)) (lo hi : Option Int) : cutV (zs.map Prod.fst) lo hi = (cutZ zs lo hi).map Prod.fst := by
  unfold cutV cutZ
  rw [List.length_map, List.map_take, List.map_drop]
theorem cutZ_mem {zs : List (L2.V × PyData)} {lo hi : Option Int} {z : L2.V × PyData} (h : z ∈ cutZ zs lo hi) : z ∈ zs := List.mem_of_mem_drop (List.mem_of_mem_take h)
theorem cutZ_wz (zs : List (L2.V × PyData)) (lo hi : Option Int) : wz (cutZ zs lo hi) ≤ wz zs := Nat.le_trans (wz_take _ _) (wz_drop _ _)
theorem cutZ_len (zs : List (L2.V × PyData)) (lo hi : Option Int) : (cutZ zs lo hi).length ≤ zs.length := by
  unfold cutZ
  rw [List.length_take, List.length_drop]
  omega
theorem set_map {zs : List (L2.V × PyData)} {j : Nat} {v : L2.V} {d : PyData} : (zs.set j (v, d)).map Prod.fst = (zs.map Prod.fst).set j v := by rw [List.map_set]
theorem sz_le {n : Nat} (h : n ≤ 10000000) : n ≤ sizeLine := Nat.le_trans h (by decide)
theorem sz_lt {n : Nat} (h : n < 10000000) : n < sizeLine := Nat.lt_of_lt_of_le h (by decide)
theorem but_S {S : Addr → Prop} {a : Addr} {H H' : Hp} (hSa : S a) (s : But a H H') : ∀ b o, H b = some o → ¬ S b → H' b = some o := fun b o e ns => s b o e (fun z => ns (by rw [z]; exact hSa))
theorem new_S {S : Addr → Prop} {a p : Addr} {H Hk : Hp} {oa : HO} (hS : ∀ b, S b → H b ≠ none) (s : But a H Hk) (ha : Hk a = some oa) (hp : Hk p = none) : ¬ S p := fun z => by
  cases e : H p with
  | none => exact hS p z e
  | some o =>
    by_cases c : p = a
    · subst c
      rw [ha] at hp
      cases hp
    · rw [s p o e c] at hp
      cases hp
theorem dom_S {S : Addr → Prop} {a : Addr} {H Hk : Hp} {oa : HO} (hS : ∀ b, S b → H b ≠ none) (s : But a H Hk) (ha : Hk a = some oa) : ∀ b, S b → Hk b ≠ none := fun b z e => new_S hS s ha e z

/-! ### reading things by their data -/
theorem Td.lstE {S : Addr → Prop} {H : Hp} {v : L2.V} {ds : List PyData} (h : Td S H v (.list ds)) : ∃ (b : Addr) (zs : List (L2.V × PyData)), v = .ref b ∧ ¬ S b ∧ H b = some (.lst (zs.map Prod.fst)) ∧ zs.map Prod.snd = ds ∧ ∀ z ∈ zs, Td S H z.1 z.2 := by
  cases h with
  | lst ne e ed h => exact ⟨_, _, rfl, ne, e, (PyData.list.inj ed).symm, h⟩
  | tup ne e ed h => cases ed
theorem Td.tupE {S : Addr → Prop} {H : Hp} {v : L2.V} {ds : List PyData} (h : Td S H v (.tuple ds)) : ∃ (b : Addr) (zs : List (L2.V × PyData)), v = .ref b ∧ ¬ S b ∧ H b = some (.tup (zs.map Prod.fst)) ∧ zs.map Prod.snd = ds ∧ ∀ z ∈ zs, Td S H z.1 z.2 := by
  cases h with
  | lst ne e ed h => cases ed
  | tup ne e ed h => exact ⟨_, _, rfl, ne, e, (PyData.tuple.inj ed).symm, h⟩
theorem Td.intE {S : Addr → Prop} {H : Hp} {v : L2.V} {i : Int} (h : Td S H v (.int i)) : v = .int i := by
  cases h with
  | int => rfl
  | lst ne e ed h => cases ed
  | tup ne e ed h => cases ed
theorem zs_two {zs : List (L2.V × PyData)} {d1 d2 : PyData} (h : zs.map Prod.snd = [d1, d2]) : ∃ v1 v2, zs = [(v1, d1), (v2, d2)] := by
  match zs, h with
  | [(v1, _), (v2, _)], h =>
    simp at h
    obtain ⟨rfl, rfl⟩ := h
    exact ⟨v1, v2, rfl⟩
theorem zs_three {zs : List (L2.V × PyData)} {d1 d2 d3 : PyData} (h : zs.map Prod.snd = [d1, d2, d3]) : ∃ v1 v2 v3, zs = [(v1, d1), (v2, d2), (v3, d3)] := by
  match zs, h with
  | [(v1, _), (v2, _), (v3, _)], h =>
    simp at h
    obtain ⟨rfl, rfl, rfl⟩ := h
    exact ⟨v1, v2, v3, rfl⟩
theorem zs_four {zs : List (L2.V × PyData)} {d1 d2 d3 d4 : PyData} (h : zs.map Prod.snd = [d1, d2, d3, d4]) : ∃ v1 v2 v3 v4, zs = [(v1, d1), (v2, d2), (v3, d3), (v4, d4)] := by
  match zs, h with
  | [(v1, _), (v2, _), (v3, _), (v4, _)], h =>
    simp at h
    obtain ⟨rfl, rfl, rfl, rfl⟩ := h
    exact ⟨v1, v2, v3, v4, rfl⟩
theorem Td.tup2E {S : Addr → Prop} {H : Hp} {v : L2.V} {d1 d2 : PyData} (h : Td S H v (.tuple [d1, d2])) : ∃ (b : Addr) (v1 v2 : L2.V), v = .ref b ∧ ¬ S b ∧ H b = some (.tup [v1, v2]) ∧ Td S H v1 d1 ∧ Td S H v2 d2 := by
  obtain ⟨b, zs, rfl, ne, e, ed, h⟩ := h.tupE
  obtain ⟨v1, v2, rfl⟩ := zs_two ed
  exact ⟨b, v1, v2, rfl, ne, e, h (v1, d1) (by simp), h (v2, d2) (by simp)⟩
theorem Td.tup3E {S : Addr → Prop} {H : Hp} {v : L2.V} {d1 d2 d3 : PyData} (h : Td S H v (.tuple [d1, d2, d3])) : ∃ (b : Addr) (v1 v2 v3 : L2.V), v = .ref b ∧ ¬ S b ∧ H b = some (.tup [v1, v2, v3]) ∧ Td S H v1 d1 ∧ Td S H v2 d2 ∧ Td S H v3 d3 := by
  obtain ⟨b, zs, rfl, ne, e, ed, h⟩ := h.tupE
  obtain ⟨v1, v2, v3, rfl⟩ := zs_three ed
  exact ⟨b, v1, v2, v3, rfl, ne, e, h (v1, d1) (by simp), h (v2, d2) (by simp), h (v3, d3) (by simp)⟩
theorem Td.tup4E {S : Addr → Prop} {H : Hp} {v : L2.V} {d1 d2 d3 d4 : PyData} (h : Td S H v (.tuple [d1, d2, d3, d4])) : ∃ (b : Addr) (v1 v2 v3 v4 : L2.V), v = .ref b ∧ ¬ S b ∧ H b = some (.tup [v1, v2, v3, v4]) ∧ Td S H v1 d1 ∧ Td S H v2 d2 ∧ Td S H v3 d3 ∧ Td S H v4 d4 := by
  obtain ⟨b, zs, rfl, ne, e, ed, h⟩ := h.tupE
  obtain ⟨v1, v2, v3, v4, rfl⟩ := zs_four ed
  exact ⟨b, v1, v2, v3, v4, rfl, ne, e, h (v1, d1) (by simp), h (v2, d2) (by simp), h (v3, d3) (by simp), h (v4, d4) (by simp)⟩
theorem Td.mk2 {S : Addr → Prop} {H : Hp} {b : Addr} {v1 v2 : L2.V} {d1 d2 : PyData} (ne : ¬ S b) (e : H b = some (.tup [v1, v2])) (h1 : Td S H v1 d1) (h2 : Td S H v2 d2) : Td S H (.ref b) (.tuple [d1, d2]) :=
  .tup (zs := [(v1, d1), (v2, d2)]) ne e rfl fun z hz => by
    simp at hz
    rcases hz with rfl | rfl
    · exact h1
    · exact h2
theorem Td.mk3 {S : Addr → Prop} {H : Hp} {b : Addr} {v1 v2 v3 : L2.V} {d1 d2 d3 : PyData} (ne : ¬ S b) (e : H b = some (.tup [v1, v2, v3])) (h1 : Td S H v1 d1) (h2 : Td S H v2 d2) (h3 : Td S H v3 d3) : Td S H (.ref b) (.tuple [d1, d2, d3]) :=
  .tup (zs := [(v1, d1), (v2, d2), (v3, d3)]) ne e rfl fun z hz => by
    simp at hz
    rcases hz with rfl | rfl | rfl
    · exact h1
    · exact h2
    · exact h3
theorem Td.mk4 {S : Addr → Prop} {H : Hp} {b : Addr} {v1 v2 v3 v4 : L2.V} {d1 d2 d3 d4 : PyData} (ne : ¬ S b) (e : H b = some (.tup [v1, v2, v3, v4])) (h1 : Td S H v1 d1) (h2 : Td S H v2 d2) (h3 : Td S H v3 d3) (h4 : Td S H v4 d4) : Td S H (.ref b) (.tuple [d1, d2, d3, d4]) :=
  .tup (zs := [(v1, d1), (v2, d2), (v3, d3), (v4, d4)]) ne e rfl fun z hz => by
    simp at hz
    rcases hz with rfl | rfl | rfl | rfl
    · exact h1
    · exact h2
    · exact h3
    · exact h4
theorem Td.mkL2 {S : Addr → Prop} {H : Hp} {b : Addr} {v1 v2 : L2.V} {d1 d2 : PyData} (ne : ¬ S b) (e : H b = some (.lst [v1, v2])) (h1 : Td S H v1 d1) (h2 : Td S H v2 d2) : Td S H (.ref b) (.list [d1, d2]) :=
  .lst (zs := [(v1, d1), (v2, d2)]) ne e rfl fun z hz => by
    simp at hz
    rcases hz with rfl | rfl
    · exact h1
    · exact h2
abbrev d3 (v : V3) : PyData := .tuple [.int v.1, .int v.2.1, .int v.2.2]
theorem Td.v3E {S : Addr → Prop} {H : Hp} {v : L2.V} {u : V3} (h : Td S H v (d3 u)) : ∃ b : Addr, v = .ref b ∧ ¬ S b ∧ H b = some (.tup (tv u)) := by
  obtain ⟨b, v1, v2, v3, rfl, ne, e, h1, h2, h3⟩ := h.tup3E
  rw [h1.intE, h2.intE, h3.intE] at e
  exact ⟨b, rfl, ne, e⟩
theorem Td.mk_v3 {S : Addr → Prop} {H : Hp} {b : Addr} {u : V3} (ne : ¬ S b) (e : H b = some (.tup (tv u))) : Td S H (.ref b) (d3 u) := Td.mk3 ne e (.int _) (.int _) (.int _)
theorem Td.same {S : Addr → Prop} {H H' : Hp} {v : L2.V} {d : PyData} (s : Same H H') (h : Td S H v d) : Td S H' v d := h.but fun b o e _ => s b o e
theorem Td.buts {b : Addr} {H H' : Hp} {v : L2.V} {d : PyData} (s : But b H H') (h : Td (fun x => x = b) H v d) : Td (fun x => x = b) H' v d := h.but fun c o e n => s c o e n
theorem w_lt {i : Int} {B : Nat} (h : i.natAbs < 2 ^ B) : (PyData.int i).weight ≤ B := by
  show (if i == 0 then 0 else i.natAbs.log2 + 1) ≤ B
  split
  · exact Nat.zero_le _
  · rename_i z
    have z2 : i.natAbs ≠ 0 := by simpa using z
    exact (Nat.log2_lt z2).mpr h
theorem wall_le {n : Nat} : ∀ {ds : List PyData}, (∀ d ∈ ds, d.weight ≤ n) → PyData.weightAll ds ≤ (n + 1) * ds.length
  | [], _ => Nat.zero_le _
  | d :: ds, h => by
    have h1 := h d List.mem_cons_self
    have h2 := wall_le fun y hy => h y (List.mem_cons_of_mem _ hy)
    have e : PyData.weightAll (d :: ds) = d.weight + 1 + PyData.weightAll ds := rfl
    rw [e, List.length_cons, Nat.mul_add]
    omega
theorem sum_perm {xs ys : List Int} (h : xs.Perm ys) : xs.sum = ys.sum := by
  induction h with
  | nil => rfl
  | cons x _ ih => simp [ih]
  | swap x y l =>
    simp only [List.sum_cons]
    omega
  | trans _ _ h1 h2 => exact h1.trans h2
/-- the same things in a drawn order -/
def spShuf : Sp := fun vs H Q _ => ∃ (α : Type) (f : α → L2.V) (b L : Addr) (o : HO) (n : Nat) (zs : List α), vs = [.ref b, .ref L] ∧ b ≠ L ∧ H b = some o ∧ BoxO o n ∧ n + 1000 < 2 ^ 30 ∧ H L = some (.lst (zs.map f)) ∧ zs.length ≤ 900 ∧
  ∀ (p : Addr) (ms : List α) (o' : HO) (H' : Hp), But b H H' → p ≠ b → H p = none → H' p = some (.lst (ms.map f)) → ms.Perm zs → H' b = some o' → BoxO o' (n + zs.length) → Q (.ref p) H'
theorem perm_ins {α : Type} {ms zs : List α} {x : α} {i r : Nat} (h : ms.Perm (zs.take i)) (hx : zs[i]? = some x) : (ms.take r ++ [x] ++ ms.drop r).Perm (zs.take (i + 1)) := by
  have e : zs.take (i + 1) = zs.take i ++ [x] := by
    rw [List.take_add_one, hx]
    rfl
  rw [e]
  have h1 : (ms.take r ++ [x] ++ ms.drop r).Perm ([x] ++ (ms.take r ++ ms.drop r)) := by
    rw [← List.append_assoc]
    exact List.Perm.append_right _ List.perm_append_comm
  rw [List.take_append_drop] at h1
  exact h1.trans ((List.perm_append_comm).trans (List.Perm.append_right _ h))
section
variable {P : Program} {w : World} {K : PySem.W.Frag} {mg : Str → Option Value} {base : Heap}
theorem fresh_but {a D : Addr} {H H' : Hp} {o : HO} (b : But a H H') (h : H' a = some o) (hD : H' D = none) : D ≠ a ∧ H D = none := by
  have n : D ≠ a := (ne_of_none h hD).symm
  refine ⟨n, ?_⟩
  cases e : H D with
  | none => rfl
  | some od => rw [b _ _ e n] at hD; cases hD
theorem ok_Lshuffled (T : Tx K mg) : FnOk P w K mg base CX0 2 T.a_Lshuffled T.f_Lshuffled ["_law_box_here", "_law_some"] spShuf := by
  have G_Ltake : FnOk P w K mg base CX0 1 T.a_Ltake T.f_Ltake ["_law_box_here", "_law_many"] spTake := ok_Ltake T
  refine T.d_Lshuffled.F.ok sc_Lshuffled (fun vs H Q E h => ?_) (fun cdv A outer s H vs Q E hr h => ?_)
  · obtain ⟨α, f, b, L, o, n, ns, rfl, _⟩ := h
    rfl
  · obtain ⟨α, f, b, L, o, n, zs, rfl, nbL, ho, hB, hn, hL, hl, q⟩ := h
    refine ⟨_, (pss_cons
    (ps_set (i := 2) sc_Lshuffled.nd rfl (.inl rfl) (pe_lst pa_nil))
    (pss_cons
    (ps_for PassesOwn.never rfl (pi_list (pv 1)) (pg_name (i := 3) sc_Lshuffled.nd rfl (.inl rfl)) (pss_one
        (ps_expr (pe_bm PySem.F.plainAttrs_list PySem.F.slot_list_insert PySem.F.type_list_insert mt_insert (pv 2) (pa_cons (pe_call G_Ltake (hr.mono (by decide)) (by rfl) T.d_Ltake.g T.d_Ltake.F.kp T.d_Ltake.b .nil pass0 (pa_cons (pv 0) (pa_cons (pe_op op_add (pe_callB call_len_seq (by rfl) T.z_len (by decide +kernel) (pa_cons (pv 2) pa_nil)) pe_int) pa_nil))) (pa_cons (pv 3) pa_nil))))))
    (pss_one
    (ps_ret (pv 2))))), ?_⟩
    refine ⟨by show 0 ≤ sizeLine; decide, fun F nF => ?_⟩
    have nFb : F ≠ b := (ne_of_none ho nF).symm
    have nFL : F ≠ L := (ne_of_none hL nF).symm
    refine ⟨_, rfl, L, rfl, ⟨_, SqL.of (same_new nF _ _ hL)⟩, for_it (walk_list (xs := zs.map f)) (fun i σ H3 => ∃ (ms : List α) (o : HO) (y3 : Option L2.V), σ = [some (.ref b), some (.ref L), some (.ref F), y3] ∧ ms.Perm (zs.take i) ∧ H3 F = some (.lst (ms.map f)) ∧ H3 b = some o ∧ BoxO o (n + i) ∧ But b H H3)
      ⟨[], o, none, rfl, by simp, upd_same, same_new nF _ _ ho, hB, But.of (same_new nF)⟩ (fun i σ H3 _ h => ?_) (fun i x σ H3' H3 hi h hy => ?_) (fun σ H3 h => ?_)⟩
    · obtain ⟨ms, o3, y3, rfl, h2, h3, h4, h5, h6⟩ := h
      exact SqL.of (h6 _ _ hL nbL.symm)
    · obtain ⟨rfl, hx⟩ := hy
      obtain ⟨ms, o3, y3, rfl, h2, h3, h4, h5, h6⟩ := h
      obtain ⟨v, hv, rfl⟩ := getL (f := f) (xs := zs) hx
      have hi8 : i < 900 := by
        rw [List.length_map] at hi
        omega
      have h1 : ms.length = i := by
        rw [h2.length_eq, List.length_take]
        rw [List.length_map] at hi
        omega
      dsimp only [gName, List.set]
      refine ⟨_, rfl, .inl ⟨rfl, _, SqL.of h3⟩, _, rfl, _, rfl, F, _, rfl, .inl (SqL.of h3), _, _, rfl, rfl, b, o3, n + i, (((ms.map f).length : Nat) : Int) + 1, rfl, h4, h5, by omega, by omega, ?_, fun r o4 r0 r1 hB4 => ?_⟩
      · rw [List.length_map, h1]
        have e : (((i : Nat) : Int) + 1).natAbs = i + 1 := by omega
        rw [e]
        exact Nat.lt_of_le_of_lt (show i + 1 ≤ 1000 by omega) (Nat.lt_of_lt_of_le (show 1000 < 2 ^ 10 by decide) (Nat.pow_le_pow_right (by decide) (by decide)))
      · rw [List.length_map, h1] at r1
        have hF4 : (upd H3 b o4) F = some (.lst (ms.map f)) := by
          rw [upd_ne nFb]
          exact h3
        refine ⟨_, rfl, F, ms.map f, r, f v, rfl, rfl, hF4, ?_, r0, by omega, ms.take r.toNat ++ [v] ++ ms.drop r.toNat, o4, _, rfl, perm_ins h2 hv, ?_, ?_, hB4, ?_⟩
        · rw [List.length_map, h1]
          exact Nat.lt_trans hi8 (by decide)
        · rw [upd_same, List.map_append, List.map_append, List.map_take, List.map_drop]
          rfl
        · rw [upd_ne nFb.symm]
          exact upd_same
        · intro c oc e ne
          rw [upd_ne (ne_of_none e nF), upd_ne ne]
          exact h6 _ _ e ne
    · obtain ⟨ms, o3, y3, rfl, h2, h3, h4, h5, h6⟩ := h
      rw [List.length_map] at h2 h5
      rw [List.take_of_length_le (Nat.le_refl _)] at h2
      exact ⟨_, rfl, q F ms o3 H3 h6 nFb nF h3 h2 h4 h5⟩
end

/-! ### what may be changed: a set of places -/
def Kp (S : Addr → Prop) (H H' : Hp) : Prop := ∀ b o, H b = some o → ¬ S b → H' b = some o
theorem Kp.refl {S : Addr → Prop} {H : Hp} : Kp S H H := fun _ _ e _ => e
theorem Kp.trans {S : Addr → Prop} {H H1 H2 : Hp} (h : Kp S H H1) (h' : Kp S H1 H2) : Kp S H H2 := fun b o e n => h' b o (h b o e n) n
theorem Kp.of {S : Addr → Prop} {H H' : Hp} (s : Same H H') : Kp S H H' := fun b o e _ => s b o e
theorem Kp.but {b : Addr} {H H' : Hp} (s : But b H H') : Kp (fun x => x = b) H H' := fun c o e n => s c o e n
theorem Kp.to {b : Addr} {H H' : Hp} (s : Kp (fun x => x = b) H H') : But b H H' := fun c o e n => s c o e n
theorem Kp.same {H H' : Hp} (s : Kp (fun _ => False) H H') : Same H H' := fun b o e => s b o e id
theorem Kp.put {S : Addr → Prop} {H : Hp} {a : Addr} {o : HO} (h : S a) : Kp S H (upd H a o) := fun b x e n => by
  rw [upd_ne fun z => n (by rw [z]; exact h)]
  exact e
theorem Kp.wk {S S' : Addr → Prop} {H H' : Hp} (k : ∀ x, S x → S' x) (h : Kp S H H') : Kp S' H H' := fun b o e n => h b o e fun z => n (k b z)
theorem Td.kp {S : Addr → Prop} {H H' : Hp} {v : L2.V} {d : PyData} (h : Td S H v d) (s : Kp S H H') : Td S H' v d := h.but s
theorem Kp.free {S : Addr → Prop} {H H' : Hp} {a : Addr} (s : Kp S H H') (n : ¬ S a) (h : H' a = none) : H a = none := by
  cases e : H a with
  | none => rfl
  | some o => rw [s a o e n] at h; cases h
theorem Kp.new {S : Addr → Prop} {H H' : Hp} {a : Addr} {o : HO} (s : Kp S H H') (h : H a = none) : Kp S H (upd H' a o) := fun b x e n => by
  rw [upd_ne (ne_of_none e h)]
  exact s b x e n
/-- a comprehension, with or without an if, each of whose turns gives a thing with its data -/
theorem lc_all {J : It} {n : Nat} {G : Hp → Prop} {Y : Nat → Hp → L2.V → Hp → Prop} (w : Walk J n G Y) {g : TG} {tt : TT} {te : TE} {vs : List Nat} {σ : L2.St} {H1 : Hp} {D : Addr} {Qd : Hp → Prop} (S : Addr → Prop) (I : Nat → List PyData → Hp → Prop) (hz : n < 100000) (nD : H1 D = none) (nS : ¬ S D)
    (hI : ∀ i ds H o, I i ds H → I i ds (upd H D o)) (h0 : I 0 [] H1) (hG : ∀ i ds H, Kp S H1 H → I i ds H → G H)
    (hs : ∀ (i : Nat) (x : L2.V) (ds : List PyData) (H H' : Hp) (Ky : VK) (Kn : Hp → Prop), i < n → Kp S H1 H → H D ≠ none → I i ds H → Y i H x H' → (∀ (H4 : Hp) (v : L2.V) (d : PyData), Kp S H H4 → Td (fun x => S x ∨ x = D) H4 v d → I (i + 1) (ds ++ [d]) H4 → Ky v H4) →
      (∀ H4 : Hp, Kp S H H4 → I (i + 1) ds H4 → Kn H4) → g x (wipe σ vs) H' fun σ2 H2 => wipe σ2 vs = wipe σ vs ∧ tt σ2 H2 fun b H3 => if b = true then te σ2 H3 Ky else Kn H3)
    (hd : ∀ (H : Hp) (zs : List (L2.V × PyData)), Kp S H1 H → H D = some (.lst (zs.map Prod.fst)) → (∀ z ∈ zs, Td (fun x => S x ∨ x = D) H z.1 z.2) → zs.length ≤ n → I n (zs.map Prod.snd) H → Qd H) :
    ∃ W : Nat → Nat → Hp → Prop, (∃ m, W 0 m (upd H1 D (.lst []))) ∧ ∀ i m H, W i m H →
      (J.stop i H ∧ Qd H) ∨ (J.go i H ∧ ∃ Nx : Hp → Prop, (∀ H', Nx H' → ∃ m', m' < m ∧ W (i + 1) m' H') ∧ ∀ x H', J.yld i H x H' → g x (wipe σ vs) H' fun σ2 H2 => wipe σ2 vs = wipe σ vs ∧ tt σ2 H2 fun b H3 =>
        if b = true then te σ2 H3 fun y H4 => ∃ acc, H4 D = some (.lst acc) ∧ acc.length < sizeLine ∧ Nx (upd H4 D (.lst (acc ++ [y]))) else Nx H3) := by
  refine lc_it w (fun i H => ∃ zs : List (L2.V × PyData), Kp S H1 H ∧ H D = some (.lst (zs.map Prod.fst)) ∧ (∀ z ∈ zs, Td (fun x => S x ∨ x = D) H z.1 z.2) ∧ zs.length ≤ i ∧ I i (zs.map Prod.snd) H)
    ⟨[], Kp.of (same_new nD), upd_same, (fun z hz => nomatch hz), Nat.le_refl _, hI _ _ _ _ h0⟩ (fun i H _ h => ?_) (fun i x H H' hi h hy => ?_) (fun H h => ?_)
  · obtain ⟨zs, k, _, _, _, h⟩ := h
    exact hG _ _ _ k h
  · obtain ⟨zs, k, hD, ht, hl, h⟩ := h
    refine hs i x _ H H' _ _ hi k (by rw [hD]; exact fun z => nomatch z) h hy (fun H4 v d k4 hv hi4 => ?_) (fun H4 k4 hi4 => ?_)
    · refine ⟨_, k4 _ _ hD nS, ?_, zs ++ [(v, d)], ?_, ?_, fun z hz => ?_, ?_, ?_⟩
      · rw [List.length_map]
        exact Nat.lt_of_le_of_lt hl (Nat.lt_trans hi (Nat.lt_of_lt_of_le hz (by decide)))
      · exact Kp.new (k.trans k4) nD
      · rw [upd_same, List.map_append]
        rfl
      · have off : ∀ (b : Addr) (o : HO), H4 b = some o → ¬ (S b ∨ b = D) → (upd H4 D (.lst (zs.map Prod.fst ++ [v]))) b = some o := fun b o e n => by
          rw [upd_ne fun z => n (.inr z)]
          exact e
        rcases List.mem_append.mp hz with hz | hz
        · exact ((ht z hz).but fun b o e n => k4 b o e fun z => n (.inl z)).but off
        · rw [List.mem_singleton.mp hz]
          exact hv.but off
      · rw [List.length_append]
        exact Nat.add_le_add_right hl 1
      · rw [List.map_append]
        exact hI _ _ _ _ hi4
    · exact ⟨zs, k.trans k4, k4 _ _ hD nS, fun z hz => (ht z hz).but fun b o e n => k4 b o e fun z => n (.inl z), Nat.le_trans hl (Nat.le_succ _), hi4⟩
  · obtain ⟨zs, k, hD, ht, hl, h⟩ := h
    exact hd H zs k hD ht hl h
theorem perm_of_map {α β : Type} {f : α → β} {xs zs : List β} (h : xs.Perm zs) : ∀ ys : List α, zs = ys.map f → ∃ ws : List α, xs = ws.map f ∧ ws.Perm ys := by
  induction h with
  | nil =>
    intro ys e
    exact ⟨[], rfl, by rw [List.map_eq_nil_iff.mp e.symm]⟩
  | cons x _ ih =>
    intro ys e
    match ys, e with
    | y :: ys, e =>
      obtain ⟨e1, e2⟩ := List.cons.inj e
      obtain ⟨ws, rfl, p⟩ := ih ys e2
      exact ⟨y :: ws, by rw [List.map_cons, e1], p.cons y⟩
  | swap x y l =>
    intro ys e
    match ys, e with
    | a :: b :: ys, e =>
      obtain ⟨e1, e2⟩ := List.cons.inj e
      obtain ⟨e2, e3⟩ := List.cons.inj e2
      exact ⟨b :: a :: ys, by rw [e1, e2, e3]; rfl, List.Perm.swap _ _ _⟩
  | trans _ _ h1 h2 =>
    intro ys e
    obtain ⟨ws, e1, p1⟩ := h2 ys e
    obtain ⟨us, e2, p2⟩ := h1 ws e1
    exact ⟨us, e2, p2.trans p1⟩

abbrev Pl := V3 × Int
abbrev dPl (p : Pl) : PyData := .tuple [d3 p.1, .int p.2]
def PlOk (p : Pl) : Prop := Bz 100 p.1 ∧ p.2.natAbs < 2 ^ 300
def gap (u : V3) (p : Pl) : Int := dot3 p.1 u - p.2
def priceI (ps : List Pl) (u : V3) : Int := (ps.map fun p => gap u p * gap u p).sum
theorem gap_lt {u : V3} {p : Pl} (hu : Bz 100 u) (h : PlOk p) : (gap u p).natAbs < 2 ^ 400 := lt_up (lt_sub (lt_up (h.1.dot hu) (show 100 + 100 + 2 ≤ 300 by decide)) h.2) (by decide)
theorem mem_at {zs : List (L2.V × PyData)} {ps : List Pl} (e : zs.map Prod.snd = ps.map dPl) {i : Nat} {z : L2.V × PyData} (h : zs[i]? = some z) : ∃ p, ps[i]? = some p ∧ z.2 = dPl p := by
  have h2 : (zs.map Prod.snd)[i]? = some z.2 := by rw [List.getElem?_map, h]; rfl
  rw [e] at h2
  exact getL (f := dPl) h2
section
variable {P : Program} {w : World} {K : PySem.W.Frag} {mg : Str → Option Value} {base : Heap}
def spPrice : Sp := fun vs H Q _ => ∃ (S : Addr → Prop) (L p : Addr) (ps : List Pl) (u : V3), vs = [.ref L, .ref p] ∧ Td S H (.ref L) (.list (ps.map dPl)) ∧ H p = some (.tup (tv u)) ∧ Bz 100 u ∧ (∀ x ∈ ps, PlOk x) ∧ ps.length ≤ 9000 ∧ ∀ H', Same H H' → Q (.int (priceI ps u)) H'
theorem ok_price_at (T : Tx K mg) : FnOk P w K mg base CX0 2 T.a_price_at T.f_price_at ["planes", "place"] spPrice := by
  have G_dot_of : FnOk P w K mg base CX0 1 T.a_dot_of T.f_dot_of ["one", "other"] spDot := ok_dot_of T
  refine T.d_price_at.F.ok sc_price_at (fun vs H Q E h => ?_) (fun cdv A outer s H vs Q E hr h => ?_)
  · obtain ⟨S, L, p, ps, u, rfl, _⟩ := h
    rfl
  · obtain ⟨S, L, p, ps, u, rfl, hL, hp, hu, hps, hl, q⟩ := h
    obtain ⟨L', zs, eL, nL, hL1, ed, hz⟩ := hL.lstE
    cases eL
    have lz : zs.length = ps.length := by
      have := congrArg List.length ed
      simpa using this
    refine ⟨_, (pss_cons
    (ps_setLc (i := 2) (own := [("n", 3), ("d", 4)]) (g := (gTup K 2 (gCons (gName 3) (gCons (gName 4) gNil)))) (tt := tYes) rfl sc_price_at.nd rfl rfl (sw_true rfl rfl rfl (by decide +kernel)) (pi_list (pv 0)) (blkOk_by (own := [("n", 3), ("d", 4)]) (N := ["planes", "place", "gaps", "n", "d", "gap"]) (sc := defScope s_price_at) (by decide +kernel)) (fun _ _ _ _ _ => (pg_tup rfl (pgs_cons (pg_name (i := 3) sc_price_at.nd rfl (.inl rfl) (.inr rfl)) (pgs_cons (pg_name (i := 4) sc_price_at.nd rfl (.inl rfl) (.inr rfl)) pgs_nil)))) (fun _ _ _ _ _ => pts_nil) (fun _ _ _ _ _ => (pe_op op_sub (pe_call G_dot_of (hr.mono (by decide)) (by rfl) T.d_dot_of.g T.d_dot_of.F.kp T.d_dot_of.b .nil pass0 (pa_cons (pv 3) (pa_cons (pv 1) pa_nil))) (pv 4))))
    (pss_one
    (ps_ret (pe_callB (cr_sum rfl) (by rfl) T.z_sum (by decide +kernel) (pa_cons (pe_lc (own := [("gap", 5)]) (g := (gName 5)) (tt := tYes) rfl sc_price_at.nd (pi_list (pv 2)) (blkOk_by (own := [("gap", 5)]) (N := ["planes", "place", "gaps", "n", "d", "gap"]) (sc := defScope s_price_at) (by decide +kernel)) (fun _ _ _ _ _ => (pg_name (i := 5) sc_price_at.nd rfl (.inl rfl) (.inr rfl))) (fun _ _ _ _ _ => pts_nil) (fun _ _ _ _ _ => (pe_op op_mulW (pv 5) (pv 5)))) pa_nil))))), ?_⟩
    refine ⟨_, rfl, L, rfl, ⟨_, SqL.of hL1⟩, fun D nD => ?_⟩
    refine lc_map (walk_list (xs := zs.map Prod.fst)) ((ps.map (gap u)).map L2.V.int) (by simp [lz]) (by rw [List.length_map, lz]; exact Nat.lt_of_le_of_lt hl (by decide)) nD (fun H3 s3 => SqL.of (s3 _ _ hL1)) (fun i x H3 H4 o Kc hi ho s3 hy k => ?_) (fun H3 s3 h3 => ?_)
    · obtain ⟨rfl, hx⟩ := hy
      obtain ⟨z, hz1, rfl⟩ := getL hx
      obtain ⟨pl, hpl, ez⟩ := mem_at ed hz1
      have tz := (hz z (List.mem_of_getElem? hz1)).same s3
      rw [ez] at tz
      obtain ⟨t, v1, v2, e1, _, ht, t1, t2⟩ := tz.tup2E
      obtain ⟨n, rfl, _, hn⟩ := t1.v3E
      cases t2.intE
      rw [e1]
      rw [List.getElem?_map, List.getElem?_map, hpl] at ho
      cases ho
      have hok := hps pl (List.mem_of_getElem? hpl)
      refine ⟨t, _, rfl, SqT.of ht, rfl, _, _, rfl, _, _, rfl, rfl, rfl, ?_⟩
      exact ⟨_, rfl, _, rfl, n, p, pl.1, u, rfl, hn, s3 _ _ hp, hok.1.mono (by decide), hu.mono (by decide), fun H5 s5 => ⟨_, rfl, _, _, rfl, rfl, k _ s5⟩⟩
    · refine ⟨_, rfl, D, rfl, ⟨_, SqL.of h3⟩, fun D2 nD2 => ?_⟩
      refine lc_map (walk_list (xs := (ps.map (gap u)).map L2.V.int)) ((ps.map fun p => gap u p * gap u p).map L2.V.int) (by simp) (by simp; exact Nat.lt_of_le_of_lt hl (by decide)) nD2 (fun H4 s4 => SqL.of (s4 _ _ h3)) (fun i x H4 H5 o Kc hi ho s4 hy k => ?_) (fun H4 s4 h4 => ?_)
      · obtain ⟨rfl, hx⟩ := hy
        obtain ⟨g, hg, rfl⟩ := getL hx
        obtain ⟨pl, hpl, rfl⟩ := getL hg
        rw [List.getElem?_map, List.getElem?_map, hpl] at ho
        cases ho
        have hok := gap_lt hu (hps pl (List.mem_of_getElem? hpl))
        exact ⟨rfl, _, rfl, _, rfl, _, _, rfl, rfl, mul4 (lt_up hok (by decide)) (lt_up hok (by decide)), k _ (Same.refl _)⟩
      · exact ⟨D2, _, rfl, SqL.of h4, q _ (s3.trans s4)⟩
theorem dot_swap (u v : V3) : dot3 u v = dot3 v u := by
  simp only [dot3, Int.mul_comm]
theorem price_nil (u : V3) : priceI [] u = 0 := rfl
theorem price_append (ps qs : List Pl) (u : V3) : priceI (ps ++ qs) u = priceI ps u + priceI qs u := by simp [priceI]
theorem price_perm {ps qs : List Pl} (h : ps.Perm qs) (u : V3) : priceI ps u = priceI qs u := sum_perm (h.map _)
theorem price_through (ps : List Pl) (u : V3) : priceI (ps.map fun p => (p.1, dot3 p.1 u)) u = 0 := by
  induction ps with
  | nil => rfl
  | cons p ps ih =>
    have e : priceI ((p :: ps).map fun p => (p.1, dot3 p.1 u)) u = gap u (p.1, dot3 p.1 u) * gap u (p.1, dot3 p.1 u) + priceI (ps.map fun p => (p.1, dot3 p.1 u)) u := by simp [priceI]
    rw [e, ih]
    simp [gap]
end

def Wi (m : Nat) (v : V3) : Prop := v.1.natAbs ≤ m ∧ v.2.1.natAbs ≤ m ∧ v.2.2.natAbs ≤ m
section
variable {P : Program} {w : World} {K : PySem.W.Frag} {mg : Str → Option Value} {base : Heap}
def spNums : Sp := fun vs H Q _ => ∃ (a : Addr) (o : HO) (n : Nat) (m : Nat), vs = [.ref a, .int (m : Nat)] ∧ H a = some o ∧ BoxO o n ∧ n + 10 < 2 ^ 30 ∧ m ≤ 10 ^ 31 ∧ ∀ (p : Addr) (v : V3) (o' : HO) (H' : Hp), But a H H' → p ≠ a → H p = none → H' p = some (.tup (tv v)) → Wi m v → H' a = some o' → BoxO o' (n + 3) → Q (.ref p) H'
theorem ok_Lnumbers (T : Tx K mg) : FnOk P w K mg base CX0 2 T.a_Lnumbers T.f_Lnumbers ["_law_box_here", "_law_most"] spNums := by
  have G_Ltake : FnOk P w K mg base CX0 1 T.a_Ltake T.f_Ltake ["_law_box_here", "_law_many"] spTake := ok_Ltake T
  refine T.d_Lnumbers.F.ok sc_Lnumbers (fun vs H Q E h => ?_) (fun cdv A outer s H vs Q E hr h => ?_)
  · obtain ⟨a, o, n, m, rfl, _⟩ := h
    rfl
  · obtain ⟨a, o, n, m, rfl, ho, hB, hn, hm, q⟩ := h
    refine ⟨_, (pss_one
    (ps_ret (pe_callTy call_tuple_of (by rfl) T.z_tuple (by decide +kernel) (pa_cons (pe_lc (own := [("_law_k", 2)]) (g := (gName 2)) (tt := tYes) rfl sc_Lnumbers.nd (pi_range1 (by rfl) T.z_range (pa_cons pe_int pa_nil)) (blkOk_by (own := [("_law_k", 2)]) (N := ["_law_box_here", "_law_most", "_law_k"]) (sc := defScope s_Lnumbers) (by decide +kernel)) (fun _ _ _ _ _ => (pg_name (i := 2) sc_Lnumbers.nd rfl (.inl rfl) (.inr rfl))) (fun _ _ _ _ _ => pts_nil) (fun _ _ _ _ _ => (pe_op op_sub (pe_call G_Ltake (hr.mono (by decide)) (by rfl) T.d_Ltake.g T.d_Ltake.F.kp T.d_Ltake.b .nil pass0 (pa_cons (pv 0) (pa_cons (pe_op op_add (pe_op op_mul pe_int (pv 1)) pe_int) pa_nil))) (pv 1)))) pa_nil)))), ?_⟩
    refine ⟨3, rfl, by decide, by decide, fun D hD => ?_⟩
    have nDa : D ≠ a := (ne_of_none ho hD).symm
    refine lc_it walk_range (fun i H3 => ∃ (ns : List Int) (o : HO), ns.length = i ∧ (∀ x ∈ ns, x.natAbs ≤ m) ∧ H3 D = some (.lst (ns.map L2.V.int)) ∧ H3 a = some o ∧ BoxO o (n + i) ∧ But a H H3)
      ⟨[], o, rfl, fun x hx => by simp at hx, upd_same, by rw [upd_ne nDa.symm]; exact ho, hB, But.of (same_new hD)⟩ (fun _ _ _ _ => trivial) (fun i x H3 H4 hi h hy => ?_) (fun H3 h => ?_)
    · obtain ⟨rfl, rfl⟩ := hy
      obtain ⟨ns, o3, hl, hs, g1, g2, g3, g4⟩ := h
      have hi3 : i < 3 := hi
      refine ⟨rfl, ?_⟩
      refine ⟨_, rfl, _, rfl, _, _, rfl, rfl, .inl ⟨by decide, by decide⟩, _, _, rfl, rfl, a, o3, n + i, 2 * (m : Int) + 1, rfl, g2, g3, by omega, by omega, ?_, fun r o4 r0 r1 hB4 => ⟨_, rfl, _, _, rfl, rfl, ?_⟩⟩
      · have : (2 * (m : Int) + 1).natAbs ≤ 2 * 10 ^ 31 + 1 := by omega
        exact Nat.lt_of_le_of_lt this (Nat.lt_of_lt_of_le (show 2 * 10 ^ 31 + 1 < 2 ^ 110 by decide) (pow_le (by decide)))
      · refine ⟨ns.map L2.V.int, ?_, ?_, ?_⟩
        · rw [upd_ne nDa]
          exact g1
        · rw [List.length_map, hl]
          exact Nat.lt_trans hi3 (by decide)
        · refine ⟨ns ++ [r - m], o4, by simp [hl], fun x hx => ?_, ?_, ?_, hB4.mono (by omega), ?_⟩
          · rcases List.mem_append.mp hx with hx | hx
            · exact hs x hx
            · rw [List.mem_singleton.mp hx]
              omega
          · rw [upd_same, List.map_append]
            rfl
          · rw [upd_ne nDa.symm]
            exact upd_same
          · intro b ob e ne
            rw [upd_ne (ne_of_none e hD), upd_ne ne]
            exact g4 _ _ e ne
    · obtain ⟨ns, o3, hl, hs, g1, g2, g3, g4⟩ := h
      obtain ⟨x, y, z, rfl⟩ : ∃ x y z, ns = [x, y, z] := by
        match ns, hl with
        | [x, y, z], _ => exact ⟨x, y, z, rfl⟩
      refine ⟨D, _, rfl, .inl ⟨SqL.of g1, fun l nl => ?_⟩⟩
      obtain ⟨nla, nlH⟩ := fresh_but g4 g2 nl
      exact q l (x, y, z) o3 _ (g4.trans (But.of (same_new nl))) nla nlH upd_same ⟨hs x (by simp), hs y (by simp), hs z (by simp)⟩ (same_new nl _ _ g2) g3
theorem Wi.bz {m : Nat} {v : V3} (h : Wi m v) (hm : m ≤ 4000000) : Bz 22 v := by
  have : 4000000 < 2 ^ 22 := by decide
  exact ⟨by have := h.1; omega, by have := h.2.1; omega, by have := h.2.2; omega⟩
/-- planes: so many, of numbers to 4 * 10 ** 6 -/
def PlS (p : Pl) : Prop := Bz 22 p.1 ∧ p.2.natAbs < 2 ^ 60
theorem PlS.ok {p : Pl} (h : PlS p) : PlOk p := ⟨h.1.mono (by decide), lt_up h.2 (by decide)⟩
def spRow : Sp := fun vs H Q _ => ∃ (b p : Addr) (o : HO) (n : Nat) (u : V3), vs = [.ref b, .ref p] ∧ b ≠ p ∧ H b = some o ∧ BoxO o n ∧ n + 200 < 2 ^ 30 ∧ H p = some (.tup (tv u)) ∧ Bz 10 u ∧
  ∀ (L : Addr) (ps : List Pl) (o' : HO) (H' : Hp), But b H H' → L ≠ b → Td (fun x => x = b) H' (.ref L) (.list (ps.map dPl)) → (∀ x ∈ ps, PlS x) → ps.length ≤ 30 → H' b = some o' → BoxO o' (n + 150) → Q (.ref L) H'
theorem ok_Lrow (T : Tx K mg) : FnOk P w K mg base CX0 3 T.a_Lrow T.f_Lrow ["_law_box_here", "_law_place"] spRow := by
  have G_Ltake : FnOk P w K mg base CX0 1 T.a_Ltake T.f_Ltake ["_law_box_here", "_law_many"] spTake := ok_Ltake T
  have G_Lnumbers : FnOk P w K mg base CX0 2 T.a_Lnumbers T.f_Lnumbers ["_law_box_here", "_law_most"] spNums := ok_Lnumbers T
  have G_Ldot : FnOk P w K mg base CX0 1 T.a_Ldot T.f_Ldot ["_law_one", "_law_other"] spDot := ok_Ldot T
  refine T.d_Lrow.F.ok sc_Lrow (fun vs H Q E h => ?_) (fun cdv A outer s H vs Q E hr h => ?_)
  · obtain ⟨b, p, o, n, u, rfl, _⟩ := h
    rfl
  · obtain ⟨b, p, o, n, u, rfl, nbp, ho, hB, hn, hp, hu, q⟩ := h
    refine ⟨_, (pss_cons
    (ps_set (i := 2) sc_Lrow.nd rfl (.inl rfl) (pe_lst pa_nil))
    (pss_cons
    (ps_for PassesOwn.never rfl (pi_range1 (by rfl) T.z_range (pa_cons (pe_call G_Ltake (hr.mono (by decide)) (by rfl) T.d_Ltake.g T.d_Ltake.F.kp T.d_Ltake.b .nil pass0 (pa_cons (pv 0) (pa_cons pe_int pa_nil))) pa_nil)) (pg_name (i := 3) sc_Lrow.nd rfl (.inl rfl)) (pss_cons
        (ps_set (i := 4) sc_Lrow.nd rfl (.inl rfl) (pe_call G_Lnumbers (hr.mono (by decide)) (by rfl) T.d_Lnumbers.g T.d_Lnumbers.F.kp T.d_Lnumbers.b .nil pass0 (pa_cons (pv 0) (pa_cons (pe_ix ix_list (pe_lst (pa_cons pe_int (pa_cons pe_int (pa_cons (pe_op op_mul pe_int (pe_op op_pow pe_int pe_int)) pa_nil)))) (pe_call G_Ltake (hr.mono (by decide)) (by rfl) T.d_Ltake.g T.d_Ltake.F.kp T.d_Ltake.b .nil pass0 (pa_cons (pv 0) (pa_cons pe_int pa_nil))) (fun _ _ => rfl)) pa_nil))))
        (pss_cons
        (ps_set (i := 5) sc_Lrow.nd rfl (.inl rfl) (pe_ix ix_list (pe_lst (pa_cons (pe_call G_Ldot (hr.mono (by decide)) (by rfl) T.d_Ldot.g T.d_Ldot.F.kp T.d_Ldot.b .nil pass0 (pa_cons (pv 4) (pa_cons (pv 1) pa_nil))) (pa_cons (pe_call G_Ltake (hr.mono (by decide)) (by rfl) T.d_Ltake.g T.d_Ltake.F.kp T.d_Ltake.b .nil pass0 (pa_cons (pv 0) (pa_cons (pe_op op_pow pe_int pe_int) pa_nil))) (pa_cons (pe_op op_sub pe_int (pe_call G_Ltake (hr.mono (by decide)) (by rfl) T.d_Ltake.g T.d_Ltake.F.kp T.d_Ltake.b .nil pass0 (pa_cons (pv 0) (pa_cons pe_int pa_nil)))) pa_nil)))) (pe_call G_Ltake (hr.mono (by decide)) (by rfl) T.d_Ltake.g T.d_Ltake.F.kp T.d_Ltake.b .nil pass0 (pa_cons (pv 0) (pa_cons pe_int pa_nil))) (fun _ _ => rfl)))
        (pss_one
        (ps_expr (pe_bm PySem.F.plainAttrs_list PySem.F.slot_list_append PySem.F.type_list_append mt_append (pv 2) (pa_cons (pe_tup (pa_cons (pv 4) (pa_cons (pv 5) pa_nil))) pa_nil)))))))
    (pss_one
    (ps_ret (pe_op op_cat (pv 2) (pe_slice sl_list (pv 2) po_none (po_some (pe_call G_Ltake (hr.mono (by decide)) (by rfl) T.d_Ltake.g T.d_Ltake.F.kp T.d_Ltake.b .nil pass0 (pa_cons (pv 0) (pa_cons pe_int pa_nil)))))))))), ?_⟩
    refine ⟨by show 0 ≤ sizeLine; decide, fun F nF => ?_⟩
    have nFb : F ≠ b := (ne_of_none ho nF).symm
    have nFp : F ≠ p := (ne_of_none hp nF).symm
    refine ⟨_, rfl, b, o, n, 13, rfl, same_new nF _ _ ho, hB, by omega, by decide, by decide, fun r o1 r0 r1 hB1 => ⟨r, rfl, ?_, ?_, ?_⟩⟩
    · omega
    · omega
    generalize hN : r.toNat = N
    have hN13 : N ≤ 13 := by omega
    refine for_it walk_range (fun i σ H3 => ∃ (zs : List (L2.V × PyData)) (ps : List Pl) (o : HO) (y3 y4 y5 : Option L2.V), σ = [some (.ref b), some (.ref p), some (.ref F), y3, y4, y5] ∧ H3 F = some (.lst (zs.map Prod.fst)) ∧ zs.map Prod.snd = ps.map dPl ∧ ps.length = i ∧ (∀ x ∈ ps, PlS x) ∧ (∀ z ∈ zs, Td (fun x => x = b ∨ x = F) H3 z.1 z.2) ∧ H3 b = some o ∧ BoxO o (n + 1 + 10 * i) ∧ But b H H3)
      ⟨[], [], o1, none, none, none, rfl, by rw [upd_ne nFb]; exact upd_same, rfl, rfl, by simp, by simp, upd_same, hB1, (But.of (same_new nF)).trans But.put⟩ (fun _ _ _ _ _ => trivial) (fun i x σ H3' H3 hi h hy => ?_) (fun σ H3 h => ?_)
    · obtain ⟨rfl, rfl⟩ := hy
      obtain ⟨zs, ps, o3, y3, y4, y5, rfl, hF, ed, el, hps, hzs, hb3, hB3, b3⟩ := h
      have lz : zs.length = ps.length := by
        have := congrArg List.length ed
        simpa using this
      have hp3 := b3 _ _ hp nbp.symm
      dsimp only [gName, List.set]
      refine ⟨_, rfl, _, _, rfl, rfl, ⟨by decide, by decide, by decide⟩, _, _, rfl, rfl, .inl ⟨by decide, by decide⟩, by show 3 ≤ sizeLine; decide, fun t nt => ⟨_, rfl, b, o3, n + 1 + 10 * i, 3, rfl, same_new nt _ _ hb3, hB3, by omega, by decide, by decide, fun r o4 r0 r1 hB4 => ?_⟩⟩
      have ntb : t ≠ b := (ne_of_none hb3 nt).symm
      obtain ⟨v, hv, ev⟩ := at_ints (xs := [3, 50, 4000000]) r0 (by exact r1)
      obtain ⟨m, rfl, hm⟩ : ∃ m : Nat, v = (m : Int) ∧ m ≤ 4000000 := by
        simp only [List.mem_cons, List.not_mem_nil, or_false] at hv
        rcases hv with rfl | rfl | rfl
        · exact ⟨3, rfl, by decide⟩
        · exact ⟨50, rfl, by decide⟩
        · exact ⟨4000000, rfl, by decide⟩
      refine ⟨t, _, _, _, rfl, rfl, SqL.of (by rw [upd_ne ntb, upd_same]; rfl), ev, ?_⟩
      refine ⟨b, o4, n + 1 + 10 * i + 1, m, rfl, upd_same, hB4, by omega, Nat.le_trans hm (by decide), fun g v o5 H5 b5 ngb ng hg hv hb5 hB5 => ?_⟩
      have b5' : But b H3 H5 := ((But.of (same_new nt)).trans But.put).trans b5
      have hp5 := b5' _ _ hp3 nbp.symm
      have hF5 := b5' _ _ hF nFb
      dsimp only [gName, List.set]
      have hvz := Wi.bz hv hm
      refine ⟨_, rfl, _, rfl, g, p, v, u, rfl, hg, hp5, hvz.mono (by decide), hu.mono (by decide), fun H6 s6 => ⟨_, rfl, _, _, rfl, rfl, ⟨by decide, by decide, by decide⟩, b, o5, n + 1 + 10 * i + 1 + 3, 10 ^ 7, rfl, s6 _ _ hb5, hB5, by omega, by decide, by decide, fun r2 o7 r20 r21 hB7 => ⟨_, rfl, b, o7, n + 1 + 10 * i + 1 + 3 + 1, 100, rfl, upd_same, hB7, by omega, by decide, by decide, fun r3 o8 r30 r31 hB8 => ⟨_, _, rfl, rfl, by show 3 ≤ sizeLine; decide, fun t2 nt2 => ⟨_, rfl, b, o8, n + 1 + 10 * i + 1 + 3 + 1 + 1, 3, rfl, same_new nt2 _ _ upd_same, hB8, by omega, by decide, by decide, fun r4 o9 r40 r41 hB9 => ?_⟩⟩⟩⟩⟩
      obtain ⟨dd, hd, ed2⟩ := at_ints (xs := [dot3 v u, r2, 0 - r3]) r40 (by exact r41)
      have hdd : dd.natAbs < 2 ^ 60 := by
        simp only [List.mem_cons, List.not_mem_nil, or_false] at hd
        rcases hd with rfl | rfl | rfl
        · exact lt_up ((hvz.dot (hu.mono (by decide)))) (by decide)
        · have : (10 : Int) ^ 7 < 2 ^ 60 := by decide
          omega
        · have : (100 : Int) < 2 ^ 60 := by decide
          omega
      have nt2b : t2 ≠ b := (ne_of_none upd_same nt2).symm
      refine ⟨t2, _, _, _, rfl, rfl, SqL.of (by rw [upd_ne nt2b, upd_same]; rfl), ed2, ?_⟩
      have b9 : But b H5 (upd (upd (upd (upd H6 b o7) b o8) t2 (.lst [.int (dot3 v u), .int r2, .int (0 - r3)])) b o9) := (((But.of s6).trans But.put).trans But.put).trans ((But.of (same_new nt2)).trans But.put)
      have hb9 : (upd (upd (upd (upd H6 b o7) b o8) t2 (.lst [.int (dot3 v u), .int r2, .int (0 - r3)])) b o9) b = some o9 := upd_same
      generalize upd (upd (upd (upd H6 b o7) b o8) t2 (.lst [.int (dot3 v u), .int r2, .int (0 - r3)])) b o9 = H9 at b9 hb9 ⊢
      have hF9 := b9 _ _ hF5 nFb
      have hg9 := b9 _ _ hg ngb
      have b39 := b5'.trans b9
      dsimp only [gName, List.set]
      refine ⟨_, rfl, .inl ⟨rfl, _, SqL.of hF9⟩, _, rfl, _, rfl, by show 2 ≤ sizeLine; decide, fun c nc => ?_⟩
      have ncF : c ≠ F := (ne_of_none hF9 nc).symm
      have ncb : c ≠ b := (ne_of_none hb9 nc).symm
      have ngF : g ≠ F := fun e => by
        subst e
        rw [upd_ne ngb, same_new nt _ _ hF] at ng
        cases ng
      refine ⟨F, _, _, rfl, rfl, same_new nc _ _ hF9, ?_, zs ++ [(.ref c, dPl (v, dd))], ps ++ [(v, dd)], o9, _, _, _, rfl, ?_, ?_, by simp [el], fun x hx => ?_, fun z hz => ?_, ?_, hB9.mono (by omega), ?_⟩
      · rw [List.length_map, lz, el]
        exact Nat.lt_of_lt_of_le (show i < 13 by omega) (by decide)
      · rw [upd_same, List.map_append]
        rfl
      · rw [List.map_append, List.map_append, ed]
        rfl
      · rcases List.mem_append.mp hx with hx | hx
        · exact hps x hx
        · rw [List.mem_singleton.mp hx]
          exact ⟨hvz, hdd⟩
      · have keep : ∀ a oa, H9 a = some oa → ¬ (a = b ∨ a = F) → (upd (upd H9 c (.tup [.ref g, .int dd])) F (.lst (zs.map Prod.fst ++ [.ref c]))) a = some oa := fun a oa e na => by
          rw [upd_ne (fun e2 => na (.inr e2)), upd_ne (ne_of_none e nc)]
          exact e
        rcases List.mem_append.mp hz with hz | hz
        · exact ((hzs z hz).but fun a oa e na => b39 a oa e (fun e2 => na (.inl e2))).but keep
        · rw [List.mem_singleton.mp hz]
          refine Td.mk2 (v1 := .ref g) (v2 := .int dd) (fun z => z.elim ncb ncF) ?_ (Td.mk_v3 (fun z => z.elim ngb ngF) (keep _ _ hg9 (fun z => z.elim ngb ngF))) (.int _)
          rw [upd_ne ncF]
          exact upd_same
      · rw [upd_ne nFb.symm]
        exact same_new nc _ _ hb9
      · intro a oa e na
        rw [upd_ne (ne_of_none e nF)]
        exact same_new nc _ _ ((b3.trans b39) _ _ e na)
    · obtain ⟨zs, ps, o3, y3, y4, y5, rfl, hF, ed, el, hps, hzs, hb3, hB3, b3⟩ := h
      have lz : zs.length = ps.length := by
        have := congrArg List.length ed
        simpa using this
      refine ⟨_, rfl, _, rfl, _, rfl, b, o3, n + 1 + 10 * N, 3, rfl, hb3, hB3, by omega, by decide, by decide, fun r o4 r0 r1 hB4 => ⟨r, rfl, F, _, rfl, SqL.of (by rw [upd_ne nFb]; exact hF), fun c nc => ?_⟩⟩
      obtain ⟨k, rfl⟩ := Int.eq_ofNat_of_zero_le r0
      have hF4 : (upd H3 b o4) F = some (.lst (zs.map Prod.fst)) := by rw [upd_ne nFb]; exact hF
      have hb4 : (upd H3 b o4) b = some o4 := upd_same
      have b4 : But b H3 (upd H3 b o4) := But.put
      generalize upd H3 b o4 = H4 at hF4 hb4 b4 nc ⊢
      have ncb : c ≠ b := (ne_of_none hb4 nc).symm
      have ncF : c ≠ F := (ne_of_none hF4 nc).symm
      rw [cut_map] at *
      refine ⟨F, c, _, _, rfl, rfl, same_new nc _ _ hF4, upd_same, ?_, fun L nL => ?_⟩
      · rw [List.length_map, List.length_map, lz, el]
        have := cutZ_len zs none (some (k : Int))
        exact Nat.le_trans (show N + (cutZ zs none (some (k : Int))).length ≤ 30 by omega) (by decide)
      have nLb : L ≠ b := (ne_of_none (same_new nc _ _ hb4) nL).symm
      have s4 : Same H4 (upd (upd H4 c (.lst ((cutZ zs none (some (k : Int))).map Prod.fst))) L (.lst (zs.map Prod.fst ++ (cutZ zs none (some (k : Int))).map Prod.fst))) := (same_new nc).trans (same_new nL)
      have e2 : (cutZ zs none (some (k : Int))).map Prod.snd = (ps.take k).map dPl := by
        unfold cutZ
        rw [HT.sIx_none, HT.sIx_nat, List.drop_zero, Nat.sub_zero, List.map_take, ed, List.map_take]
        rcases Nat.le_total k zs.length with h | h
        · rw [Nat.min_eq_left h]
        · rw [Nat.min_eq_right h, List.take_of_length_le (by simp [lz]), List.take_of_length_le (by simp; omega)]
      refine q L (ps ++ ps.take k) o4 _ ((b3.trans b4).trans (But.of s4)) nLb (.lst (zs := zs ++ cutZ zs none (some (k : Int))) nLb (by rw [upd_same, List.map_append]) (by rw [List.map_append, List.map_append, ed, e2]) fun z hz => ?_) (fun x hx => ?_) (by rw [List.length_append, List.length_take]; omega) (s4 _ _ hb4) (hB4.mono (by omega))
      · have hz2 : z ∈ zs := (List.mem_append.mp hz).elim id cutZ_mem
        exact (((hzs z hz2).wk (fun a e => .inl e)).buts b4).same s4
      · rcases List.mem_append.mp hx with hx | hx
        · exact hps x hx
        · exact hps x (List.mem_of_mem_take hx)
def spDue : Sp := fun vs H Q _ => ∃ (S : Addr → Prop) (L p : Addr) (ps : List Pl) (u : V3), vs = [.ref L, .ref p] ∧ Td S H (.ref L) (.list (ps.map dPl)) ∧ H p = some (.tup (tv u)) ∧ Bz 100 u ∧ (∀ x ∈ ps, PlOk x) ∧ Q (.int (priceI ps u)) H
theorem ok_Ldue (T : Tx K mg) : FnOk P w K mg base CX0 1 T.a_Ldue T.f_Ldue ["_law_row_here", "_law_place"] spDue := by
  refine T.d_Ldue.F.ok sc_Ldue (fun vs H Q E h => ?_) (fun cdv A outer s H vs Q E hr h => ?_)
  · obtain ⟨S, L, p, ps, u, rfl, _⟩ := h
    rfl
  · obtain ⟨S, L, p, ps, u, rfl, hL, hp, hu, hps, q⟩ := h
    obtain ⟨L', zs, eL, nL, hL1, ed, hz⟩ := hL.lstE
    cases eL
    have lz : zs.length = ps.length := by
      have := congrArg List.length ed
      simpa using this
    refine ⟨_, (pss_cons
    (ps_set (i := 2) sc_Ldue.nd rfl (.inl rfl) pe_int)
    (pss_cons
    (ps_for PassesOwn.never rfl (pi_list (pv 0)) (pg_tup rfl (pgs_cons (pg_name (i := 3) sc_Ldue.nd rfl (.inl rfl)) (pgs_cons (pg_name (i := 4) sc_Ldue.nd rfl (.inl rfl)) pgs_nil))) (pss_cons
        (ps_set (i := 5) sc_Ldue.nd rfl (.inl rfl) (pe_op op_sub pe_int (pv 4)))
        (pss_cons
        (ps_for PassesOwn.never rfl (pi_range1 (by rfl) T.z_range (pa_cons pe_int pa_nil)) (pg_name (i := 6) sc_Ldue.nd rfl (.inl rfl)) (pss_one
            (ps_set (i := 5) sc_Ldue.nd rfl (.inl rfl) (pe_op op_add (pv 5) (pe_op op_mulW (pe_ix ix_tup (pv 3) (pv 6) (fun _ _ => rfl)) (pe_ix ix_tup (pv 1) (pv 6) (fun _ _ => rfl)))))))
        (pss_one
        (ps_set (i := 2) sc_Ldue.nd rfl (.inl rfl) (pe_op op_add (pv 2) (pe_op op_mulW (pv 5) (pv 5))))))))
    (pss_one
    (ps_ret (pv 2))))), ?_⟩
    refine ⟨_, rfl, L, rfl, ⟨_, SqL.of hL1⟩, for_it (walk_list (xs := zs.map Prod.fst)) (fun i σ H3 => ∃ y3 y4 y5 y6, σ = [some (.ref L), some (.ref p), some (.int (priceI (ps.take i) u)), y3, y4, y5, y6] ∧ H3 = H)
      ⟨none, none, none, none, rfl, rfl⟩ (fun i σ H3 _ h => ?_) (fun i x σ H3' H3 hi h hy => ?_) (fun σ H3 h => ?_)⟩
    · obtain ⟨_, _, _, _, _, rfl⟩ := h
      exact SqL.of hL1
    · obtain ⟨rfl, hx⟩ := hy
      obtain ⟨y3, y4, y5, y6, rfl, rfl⟩ := h
      obtain ⟨z, hz1, rfl⟩ := getL hx
      obtain ⟨pl, hpl, ez⟩ := mem_at ed hz1
      have tz := (hz z (List.mem_of_getElem? hz1))
      rw [ez] at tz
      obtain ⟨t, v1, v2, e1, _, ht, t1, t2⟩ := tz.tup2E
      obtain ⟨n, rfl, _, hn⟩ := t1.v3E
      cases t2.intE
      rw [e1]
      have hok := hps pl (List.mem_of_getElem? hpl)
      refine ⟨t, _, rfl, SqT.of ht, rfl, _, _, rfl, _, _, rfl, rfl, ?_⟩
      refine ⟨_, rfl, _, _, rfl, rfl, 3, rfl, by decide, by decide, ?_⟩
      refine for_it walk_range (fun j σ H4 => ∃ y6, σ = [some (.ref L), some (.ref p), some (.int (priceI (ps.take i) u)), some (.ref n), some (.int pl.2), some (.int (0 - pl.2 + (((tv pl.1).zip (tv u)).take j |>.map (fun z => match z with | (.int a, .int c) => a * c | _ => 0)).sum)), y6] ∧ H4 = H3)
        ⟨y6, by simp, rfl⟩ (fun _ _ _ _ _ => trivial) (fun j x σ H4' H4 hj h hy => ?_) (fun σ H4 h => ?_)
      · obtain ⟨rfl, rfl⟩ := hy
        obtain ⟨y6, rfl, rfl⟩ := h
        have hj3 : j < 3 := hj
        have m1 := mul4 (lt_up hok.1.1 (show 100 ≤ 4000 by decide)) (lt_up hu.1 (show 100 ≤ 4000 by decide))
        have m2 := mul4 (lt_up hok.1.2.1 (show 100 ≤ 4000 by decide)) (lt_up hu.2.1 (show 100 ≤ 4000 by decide))
        have m3 := mul4 (lt_up hok.1.2.2 (show 100 ≤ 4000 by decide)) (lt_up hu.2.2 (show 100 ≤ 4000 by decide))
        match j, hj3 with
        | 0, _ => exact ⟨_, rfl, _, rfl, _, rfl, n, _, _, .int pl.1.1, rfl, rfl, SqT.of hn, rfl, _, rfl, _, rfl, p, _, _, .int u.1, rfl, rfl, SqT.of hp, rfl, _, _, rfl, rfl, m1, _, _, rfl, rfl, _, by simp [Int.add_assoc]; rfl, rfl⟩
        | 1, _ => exact ⟨_, rfl, _, rfl, _, rfl, n, _, _, .int pl.1.2.1, rfl, rfl, SqT.of hn, rfl, _, rfl, _, rfl, p, _, _, .int u.2.1, rfl, rfl, SqT.of hp, rfl, _, _, rfl, rfl, m2, _, _, rfl, rfl, _, by simp [Int.add_assoc]; rfl, rfl⟩
        | 2, _ => exact ⟨_, rfl, _, rfl, _, rfl, n, _, _, .int pl.1.2.2, rfl, rfl, SqT.of hn, rfl, _, rfl, _, rfl, p, _, _, .int u.2.2, rfl, rfl, SqT.of hp, rfl, _, _, rfl, rfl, m3, _, _, rfl, rfl, _, by simp [Int.add_assoc]; rfl, rfl⟩
      · obtain ⟨y6, rfl, rfl⟩ := h
        have eg : 0 - pl.2 + (((tv pl.1).zip (tv u)).take (Int.toNat 3) |>.map (fun z => match z with | (.int a, .int c) => a * c | _ => 0)).sum = gap u pl := by
          simp [gap, dot3]
          omega
        have hg := gap_lt hu hok
        refine ⟨_, rfl, _, rfl, _, rfl, _, _, rfl, rfl, ?_, _, _, rfl, rfl, some (.ref n), some (.int pl.2), some (.int (gap u pl)), y6, ?_, rfl⟩
        · rw [eg]
          exact mul4 (lt_up hg (by decide)) (lt_up hg (by decide))
        · have : priceI (ps.take (i + 1)) u = priceI (ps.take i) u + gap u pl * gap u pl := by
            rw [List.take_add_one, hpl, price_append]
            simp [priceI]
          rw [this, eg]
          rfl
    · obtain ⟨_, _, _, _, rfl, rfl⟩ := h
      refine ⟨_, rfl, ?_⟩
      rw [List.length_map, lz, List.take_of_length_le (Nat.le_refl _)]
      exact q
end

end K32

set_option maxHeartbeats 8000000
namespace K32
open PySem PySem.Spec PyProof.Rows L2
section
variable {P : Program} {w : World} {K : PySem.W.Frag} {mg : Str → Option Value} {base : Heap}
theorem fi_pl {p : Pl} (h : PlS p) : Fi 100 2 (dPl p) := .tup fun d hd => by
  simp only [List.mem_cons, List.not_mem_nil, or_false] at hd
  rcases hd with rfl | rfl
  · exact .tup fun d hd => by
      simp only [List.mem_cons, List.not_mem_nil, or_false] at hd
      rcases hd with rfl | rfl | rfl
      · exact .int (lt_up h.1.1 (by decide))
      · exact .int (lt_up h.1.2.1 (by decide))
      · exact .int (lt_up h.1.2.2 (by decide))
  · exact .int (lt_up h.2 (by decide))
theorem w_pl {p : Pl} (h : PlS p) : (dPl p).weight ≤ 200 := by
  have e : (dPl p).weight = ((PyData.int p.1.1).weight + 1 + ((PyData.int p.1.2.1).weight + 1 + ((PyData.int p.1.2.2).weight + 1 + 0))) + 1 + ((PyData.int p.2).weight + 1 + 0) := rfl
  have h1 := w_lt h.1.1
  have h2 := w_lt h.1.2.1
  have h3 := w_lt h.1.2.2
  have h4 := w_lt h.2
  omega
abbrev dRows (ps qs : List Pl) : PyData := .list [.list (ps.map dPl), .list (qs.map dPl)]
theorem str_rows {S : Addr → Prop} {H : Hp} {v : L2.V} {ps qs : List Pl} (h : Td S H v (dRows ps qs)) (hp : ∀ x ∈ ps, PlS x) (hq : ∀ x ∈ qs, PlS x) (lp : ps.length ≤ 30) (lq : qs.length ≤ 30) :
    Dp K H v (dRows ps qs) ∧ (dRows ps qs).showable = true ∧ (dRows ps qs).hasDict = false ∧ (dRows ps qs).depth ≤ 60 ∧ (dRows ps qs).shown.length ≤ sizeLine := by
  have f1 : ∀ rs : List Pl, (∀ x ∈ rs, PlS x) → Fi 100 3 (.list (rs.map dPl)) := fun rs hr => .lst fun d hd => by
    obtain ⟨x, hx, rfl⟩ := List.mem_map.mp hd
    exact fi_pl (hr x hx)
  have f : Fi 100 4 (dRows ps qs) := .lst fun d hd => by
    simp only [List.mem_cons, List.not_mem_nil, or_false] at hd
    rcases hd with rfl | rfl
    · exact f1 ps hp
    · exact f1 qs hq
  have wl : ∀ rs : List Pl, (∀ x ∈ rs, PlS x) → rs.length ≤ 30 → PyData.weightAll (rs.map dPl) ≤ 6030 := fun rs hr hl => by
    have := wall_le (n := 200) (ds := rs.map dPl) fun d hd => by
      obtain ⟨x, hx, rfl⟩ := List.mem_map.mp hd
      exact w_pl (hr x hx)
    rw [List.length_map] at this
    omega
  have e : (dRows ps qs).weight = PyData.weightAll (ps.map dPl) + 1 + (PyData.weightAll (qs.map dPl) + 1 + 0) := rfl
  have w1 := wl ps hp lp
  have w2 := wl qs hq lq
  have fl := f.len
  exact ⟨h.dp, f.show (by decide), f.nodict, Nat.le_trans f.depth (by decide), Nat.le_trans fl (Nat.le_trans (show 12 * (dRows ps qs).weight + 9 ≤ 200000 by omega) (by decide))⟩
theorem eqv_ii (i : Int) : PyData.eqv (.list [.int i, .int i]) (.list [.int i, .int i]) = true := by simp [PyData.eqv, PyData.eqvAll]
def spLaw (K : PySem.W.Frag) : Sp := fun vs H Q _ => ∃ (a : Addr) (ns : List Int), vs = [.ref a] ∧ SqL K H a (ns.map L2.V.int) ∧ ns.length ≤ 63 ∧ ∀ H', Q (.bl true) H'
theorem ok_law (T : Tx K mg) : GL.FnG P w K mg base 4 T.a_law T.f_law ["_law_script"] (spLaw K) := by
  have G_Lfolded : FnOk P w K mg base CX0 1 T.a_Lfolded T.f_Lfolded ["_law_script", "_law_many"] (spFold K) := ok_Lfolded T
  have G_Lbox : FnOk P w K mg base CX0 1 T.a_Lbox T.f_Lbox ["_law_cells", "_law_k"] (spBox K) := ok_Lbox T
  have G_Ltake : FnOk P w K mg base CX0 1 T.a_Ltake T.f_Ltake ["_law_box_here", "_law_many"] spTake := ok_Ltake T
  have G_Lnumbers : FnOk P w K mg base CX0 2 T.a_Lnumbers T.f_Lnumbers ["_law_box_here", "_law_most"] spNums := ok_Lnumbers T
  have G_Lrow : FnOk P w K mg base CX0 3 T.a_Lrow T.f_Lrow ["_law_box_here", "_law_place"] spRow := ok_Lrow T
  have G_Ldue : FnOk P w K mg base CX0 1 T.a_Ldue T.f_Ldue ["_law_row_here", "_law_place"] spDue := ok_Ldue T
  have G_price_at : FnOk P w K mg base CX0 2 T.a_price_at T.f_price_at ["planes", "place"] spPrice := ok_price_at T
  have G_Lshuffled : FnOk P w K mg base CX0 2 T.a_Lshuffled T.f_Lshuffled ["_law_box_here", "_law_some"] spShuf := ok_Lshuffled T
  have G_Ldot : FnOk P w K mg base CX0 1 T.a_Ldot T.f_Ldot ["_law_one", "_law_other"] spDot := ok_Ldot T
  refine GL.FnG.mk' T.d_law.F sc_law (fun vs H Q E h => ?_) (fun cdv A outer s H vs Q E gd hr h => ?_)
  · obtain ⟨a, ns, rfl, _⟩ := h
    rfl
  · obtain ⟨a, ns, rfl, hS, hl, q⟩ := h
    refine ⟨_, (pss_cons
    (ps_set (i := 1) sc_law.nd rfl (.inl rfl) (pe_call G_Lfolded (hr.mono (by decide)) (by rfl) T.d_Lfolded.g T.d_Lfolded.F.kp T.d_Lfolded.b .nil pass0 (pa_cons (pv 0) (pa_cons pe_int pa_nil))))
    (pss_cons
    (ps_for PassesOwn.never rfl (pi_range1 (by rfl) T.z_range (pa_cons (pe_callB (call_max2 rfl) (by rfl) T.z_max (by decide +kernel) (pa_cons pe_int (pa_cons (pe_callB call_len_seq (by rfl) T.z_len (by decide +kernel) (pa_cons (pv 1) pa_nil)) pa_nil))) pa_nil)) (pg_name (i := 2) sc_law.nd rfl (.inl rfl)) (pss_cons
        (ps_set (i := 3) sc_law.nd rfl (.inl rfl) (pe_call G_Lbox (hr.mono (by decide)) (by rfl) T.d_Lbox.g T.d_Lbox.F.kp T.d_Lbox.b .nil pass0 (pa_cons (pv 1) (pa_cons (pv 2) pa_nil))))
        (pss_one
        (ps_for PassesOwn.never rfl (pi_range1 (by rfl) T.z_range (pa_cons pe_int pa_nil)) (pg_name (i := 4) sc_law.nd rfl (.inl rfl)) (pss_cons
            (ps_set (i := 5) sc_law.nd rfl (.inr rfl) (pe_call G_Lnumbers (hr.mono (by decide)) (by rfl) T.d_Lnumbers.g T.d_Lnumbers.F.kp T.d_Lnumbers.b .nil pass0 (pa_cons (pv 3) (pa_cons (pe_ix ix_list (pe_lst (pa_cons pe_int (pa_cons pe_int pa_nil))) (pe_call G_Ltake (hr.mono (by decide)) (by rfl) T.d_Ltake.g T.d_Ltake.F.kp T.d_Ltake.b .nil pass0 (pa_cons (pv 3) (pa_cons pe_int pa_nil))) (fun _ _ => rfl)) pa_nil))))
            (pss_cons
            (ps_par (i := 6) (j := 7) (by rfl) sc_law.nd rfl rfl (by decide) rfl rfl (pa_cons (pe_call G_Lrow (hr.mono (by decide)) (by rfl) T.d_Lrow.g T.d_Lrow.F.kp T.d_Lrow.b .nil pass0 (pa_cons (pv 3) (pa_cons (pv 5) pa_nil))) (pa_cons (pe_call G_Lrow (hr.mono (by decide)) (by rfl) T.d_Lrow.g T.d_Lrow.F.kp T.d_Lrow.b .nil pass0 (pa_cons (pv 3) (pa_cons (pv 5) pa_nil))) pa_nil)) (by rfl))
            (pss_cons
            (ps_par (i := 8) (j := 9) (by rfl) sc_law.nd rfl rfl (by decide) rfl rfl (pa_cons (pe_callTy (GL.call_strD gd hr.units) (by rfl) T.z_str (by decide +kernel) (pa_cons (pe_lst (pa_cons (pv 6) (pa_cons (pv 7) pa_nil))) pa_nil)) (pa_cons (pe_call G_Ldue (hr.mono (by decide)) (by rfl) T.d_Ldue.g T.d_Ldue.F.kp T.d_Ldue.b .nil pass0 (pa_cons (pv 6) (pa_cons (pv 5) pa_nil))) pa_nil)) (by rfl))
            (pss_cons
            (ps_set (i := 10) sc_law.nd rfl (.inl rfl) (pe_lst (pa_cons (pe_call G_price_at (hr.mono (by decide)) (by rfl) T.d_price_at.g T.d_price_at.F.kp T.d_price_at.b .nil pass0 (pa_cons (pv 6) (pa_cons (pv 5) pa_nil))) (pa_cons (pe_call G_price_at (hr.mono (by decide)) (by rfl) T.d_price_at.g T.d_price_at.F.kp T.d_price_at.b .nil pass0 (pa_cons (pe_call G_Lshuffled (hr.mono (by decide)) (by rfl) T.d_Lshuffled.g T.d_Lshuffled.F.kp T.d_Lshuffled.b .nil pass0 (pa_cons (pv 3) (pa_cons (pv 6) pa_nil))) (pa_cons (pv 5) pa_nil))) pa_nil))))
            (pss_cons
            (ps_if (PW.pt (pw_or (pt_cmpR (op_neD hr.units) (pv 10) (pe_lst (pa_cons (pv 9) (pa_cons (pv 9) pa_nil))) (nomark _)) (pw_or (pt_val (pe_callB call_isi (by rfl) T.z_isinstance (by decide +kernel) (pa_cons (pe_ix ix_list (pv 10) pe_int (fun _ _ => rfl)) (pa_cons (pe_bltn (v := .ty "bool") (by rfl) T.z_bool (by decide +kernel) rfl) pa_nil)))) (pw_or1 (pt_not (pt_val (pe_callB call_isi (by rfl) T.z_isinstance (by decide +kernel) (pa_cons (pe_ix ix_list (pv 10) pe_int (fun _ _ => rfl)) (pa_cons (pe_bltn (v := .ty "int") (by rfl) T.z_int (by decide +kernel) rfl) pa_nil))))))))) (pss_one
                (ps_ret pe_bl)) pss_nil)
            (pss_cons
            (ps_if (PW.pt (pw_or (pt_cmpR op_ne (pe_call G_price_at (hr.mono (by decide)) (by rfl) T.d_price_at.g T.d_price_at.F.kp T.d_price_at.b .nil pass0 (pa_cons (pe_op op_cat (pv 6) (pv 7)) (pa_cons (pv 5) pa_nil))) (pe_op op_add (pv 9) (pe_call G_price_at (hr.mono (by decide)) (by rfl) T.d_price_at.g T.d_price_at.F.kp T.d_price_at.b .nil pass0 (pa_cons (pv 7) (pa_cons (pv 5) pa_nil)))) (nomark _)) (pw_or1 (pt_cmpR op_ne (pe_call G_price_at (hr.mono (by decide)) (by rfl) T.d_price_at.g T.d_price_at.F.kp T.d_price_at.b .nil pass0 (pa_cons (pe_lst pa_nil) (pa_cons (pv 5) pa_nil))) pe_int (nomark _))))) (pss_one
                (ps_ret pe_bl)) pss_nil)
            (pss_cons
            (ps_setLc (i := 11) (own := [("_law_across", 12), ("_law_depth", 13)]) (g := (gTup K 2 (gCons (gName 12) (gCons (gName 13) gNil)))) (tt := tYes) rfl sc_law.nd rfl rfl (sw_true rfl rfl rfl (by decide +kernel)) (pi_list (pv 6)) (blkOk_by (own := [("_law_across", 12), ("_law_depth", 13)]) (N := ["_law_script", "_law_cells", "_law_k", "_law_box_here", "_law_turn", "_law_place", "_law_row_here", "_law_other", "_law_kept", "_law_due_here", "_law_found", "_law_through", "_law_across", "_law_depth"]) (sc := defScope s_law) (by decide +kernel)) (fun _ _ _ _ _ => (pg_tup rfl (pgs_cons (pg_name (i := 12) sc_law.nd rfl (.inl rfl) (.inr rfl)) (pgs_cons (pg_name (i := 13) sc_law.nd rfl (.inl rfl) (.inr rfl)) pgs_nil)))) (fun _ _ _ _ _ => pts_nil) (fun _ _ _ _ _ => (pe_tup (pa_cons (pv 12) (pa_cons (pe_call G_Ldot (hr.mono (by decide)) (by rfl) T.d_Ldot.g T.d_Ldot.F.kp T.d_Ldot.b .nil pass0 (pa_cons (pv 12) (pa_cons (pv 5) pa_nil))) pa_nil)))))
            (pss_one
            (ps_if (PW.pt (pw_or (pt_cmpR op_ne (pe_call G_price_at (hr.mono (by decide)) (by rfl) T.d_price_at.g T.d_price_at.F.kp T.d_price_at.b .nil pass0 (pa_cons (pv 11) (pa_cons (pv 5) pa_nil))) pe_int (nomark _)) (pw_or1 (pt_cmpR op_ne (pe_callTy (GL.call_strD gd hr.units) (by rfl) T.z_str (by decide +kernel) (pa_cons (pe_lst (pa_cons (pv 6) (pa_cons (pv 7) pa_nil))) pa_nil)) (pv 8) (nomark _))))) (pss_one
                (ps_ret pe_bl)) pss_nil)))))))))))))
    (pss_one
    (ps_ret pe_bl)))), ?_⟩
    refine ⟨_, rfl, a, ns, 8, rfl, hS, hl, by decide, by decide, fun H1 c cs s1 nc hc hcl => ?_⟩
    refine ⟨_, rfl, c, _, rfl, .inl (SqL.of hc), 1, _, rfl, _, rfl, ?_, ?_, ?_⟩
    · rw [List.length_map]
      split <;> omega
    · rw [List.length_map]
      split <;> omega
    rw [List.length_map]
    generalize hn : (if (cs.length : Int) > 1 then (cs.length : Int) else 1).toNat = n
    have hn10 : n ≤ 10 := by
      rw [← hn]
      split <;> omega
    refine for_it walk_range (fun i σ H3 => ∃ y2 y3 y4 y5 y6 y7 y8 y9 y10 y11 y12 y13, σ = [some (.ref a), some (.ref c), y2, y3, y4, y5, y6, y7, y8, y9, y10, y11, y12, y13] ∧ H3 c = some (.lst (cs.map L2.V.int)))
      ⟨none, none, none, none, none, none, none, none, none, none, none, none, rfl, hc⟩ (fun _ _ _ _ _ => trivial) (fun i x σ H3' H3 hi h hy => ?_) (fun σ H3 h => ?_)
    · obtain ⟨rfl, rfl⟩ := hy
      obtain ⟨y2, y3, y4, y5, y6, y7, y8, y9, y10, y11, y12, y13, rfl, hc3⟩ := h
      refine ⟨_, rfl, _, rfl, c, cs, i, by show [L2.V.ref c, L2.V.int (0 + (i : Int))] = _; rw [Int.zero_add], SqL.of hc3, by omega, fun b o nb hB => ?_⟩
      have ncb : c ≠ b := ne_of_none hc3 nb
      have hcb : (upd H3 b o) c = some (.lst (cs.map L2.V.int)) := by
        rw [upd_ne ncb]
        exact hc3
      have hbb : (upd H3 b o) b = some o := upd_same
      generalize upd H3 b o = H4 at hcb hbb ⊢
      dsimp only [gName, List.set]
      refine ⟨6, rfl, by decide, by decide, for_it walk_range (fun j σ H5 => ∃ y4 y5 y6 y7 y8 y9 y10 y11 y12 y13 o, σ = [some (.ref a), some (.ref c), some (.int (0 + (i : Int))), some (.ref b), y4, y5, y6, y7, y8, y9, y10, y11, y12, y13] ∧ H5 c = some (.lst (cs.map L2.V.int)) ∧ H5 b = some o ∧ BoxO o (1100 * j))
        ⟨y4, y5, y6, y7, y8, y9, y10, y11, y12, y13, o, rfl, hcb, hbb, hB⟩ (fun _ _ _ _ _ => trivial) (fun j x σ H5' H5 hj h hy => ?_) (fun σ H5 h => ?_)⟩
      · obtain ⟨rfl, rfl⟩ := hy
        obtain ⟨y4, y5, y6, y7, y8, y9, y10, y11, y12, y13, o, rfl, hc5, hb5, hB5⟩ := h
        have hj6 : j < 6 := hj
        dsimp only [gName, List.set]
        -- the place
        refine ⟨_, rfl, by show 2 ≤ sizeLine; decide, fun t nt => ⟨_, rfl, b, o, 1100 * j, 2, rfl, same_new nt _ _ hb5, hB5, by omega, by decide, by decide, fun r o2 r0 r1 hB2 => ?_⟩⟩
        have ntb : t ≠ b := (ne_of_none hb5 nt).symm
        obtain ⟨v, hv, ev⟩ := at_ints (xs := [5, 1000]) r0 (by exact r1)
        obtain ⟨m, rfl, hm⟩ : ∃ m : Nat, v = (m : Int) ∧ m ≤ 1000 := by
          simp only [List.mem_cons, List.not_mem_nil, or_false] at hv
          rcases hv with rfl | rfl
          · exact ⟨5, rfl, by decide⟩
          · exact ⟨1000, rfl, by decide⟩
        refine ⟨t, _, _, _, rfl, rfl, SqL.of (by rw [upd_ne ntb, upd_same]; rfl), ev, ?_⟩
        have b6 : But b H5 (upd (upd H5 t (.lst [.int 5, .int 1000])) b o2) := (But.of (same_new nt)).trans But.put
        have hb6 : (upd (upd H5 t (.lst [.int 5, .int 1000])) b o2) b = some o2 := upd_same
        generalize upd (upd H5 t (.lst [.int 5, .int 1000])) b o2 = H6 at b6 hb6 ⊢
        have hc6 := b6 _ _ hc5 ncb
        refine ⟨b, o2, 1100 * j + 1, m, rfl, hb6, hB2, by omega, Nat.le_trans hm (by decide), fun p u o7 H7 b7 npb np hp hu hb7 hB7 => ?_⟩
        have hc7 := b7 _ _ hc6 ncb
        have hu10 : Bz 10 u := by
          have : 1000 < 2 ^ 10 := by decide
          exact ⟨by have := hu.1; omega, by have := hu.2.1; omega, by have := hu.2.2; omega⟩
        have hu100 : Bz 100 u := hu10.mono (by decide)
        dsimp only [gName, List.set]
        -- both rows
        refine ⟨_, rfl, _, rfl, b, p, o7, 1100 * j + 1 + 3, u, rfl, npb.symm, hb7, hB7, by omega, hp, hu10, fun L ps o8 H8 b8 nL td8 hs8 len8 hb8 hB8 => ?_⟩
        have hp8 := b8 _ _ hp npb
        refine ⟨_, rfl, _, rfl, b, p, o8, 1100 * j + 1 + 3 + 150, u, rfl, npb.symm, hb8, hB8, by omega, hp8, hu10, fun M qs o9 H9 b9 nM td9 hs9 len9 hb9 hB9 => ⟨_, _, rfl, ?_⟩⟩
        have hp9 := b9 _ _ hp8 npb
        have hc9 := b9 _ _ (b8 _ _ hc7 ncb) ncb
        have tdL9 := td8.buts b9
        have okp : ∀ x ∈ ps, PlOk x := fun x hx => (hs8 x hx).ok
        have okq : ∀ x ∈ qs, PlOk x := fun x hx => (hs9 x hx).ok
        dsimp only [gName, List.set]
        -- kept, due
        refine ⟨_, rfl, _, rfl, by show 2 ≤ sizeLine; decide, fun t1 nt1 => ?_⟩
        have nt1b : t1 ≠ b := (ne_of_none hb9 nt1).symm
        have s10 := same_new (o := .lst [.ref L, .ref M]) nt1
        have ht10 : (upd H9 t1 (.lst [.ref L, .ref M])) t1 = some (.lst [.ref L, .ref M]) := upd_same
        generalize upd H9 t1 (.lst [.ref L, .ref M]) = H10 at s10 ht10 ⊢
        have td10 : Td (fun x => x = b) H10 (.ref t1) (dRows ps qs) := Td.mkL2 nt1b ht10 (tdL9.same s10) (td9.same s10)
        have sf := str_rows (K := K) td10 hs8 hs9 len8 len9
        have hp10 := s10 _ _ hp9
        have hb10 := s10 _ _ hb9
        have tdL10 := tdL9.same s10
        have tdM10 := td9.same s10
        refine ⟨_, dRows ps qs, rfl, sf.1, sf.2.1, sf.2.2.1, sf.2.2.2.1, sf.2.2.2.2, _, rfl, _, rfl, (fun x => x = b), L, p, ps, u, rfl, tdL10, hp10, hu100, okp, _, _, rfl, ?_⟩
        dsimp only [gName, List.set]
        -- found
        refine ⟨_, rfl, _, rfl, (fun x => x = b), L, p, ps, u, rfl, tdL10, hp10, hu100, okp, Nat.le_trans len8 (by decide), fun H11 s11 => ?_⟩
        obtain ⟨L', zs, eL, _, hL11, ed, hz⟩ := (tdL10.same s11).lstE
        cases eL
        have lz : zs.length = ps.length := by
          have := congrArg List.length ed
          simpa using this
        refine ⟨_, rfl, _, rfl, L2.V × PyData, Prod.fst, b, L, o9, 1100 * j + 1 + 3 + 150 + 150, zs, rfl, nL.symm, s11 _ _ hb10, hB9, by omega, hL11, by omega, fun g ms o12 H12 b12 ngb ng hg pm hb12 hB12 => ?_⟩
        obtain ⟨rs, er, pr⟩ := perm_of_map (f := dPl) (pm.map Prod.snd) ps ed
        have tdg : Td (fun x => x = b) H12 (.ref g) (.list (rs.map dPl)) := .lst ngb hg (by rw [er]) fun z hz1 => (hz z (pm.subset hz1)).buts b12
        have hp12 := b12 _ _ (s11 _ _ hp10) npb
        refine ⟨_, rfl, (fun x => x = b), g, p, rs, u, rfl, tdg, hp12, hu100, fun x hx => okp x (pr.subset hx), by rw [pr.length_eq]; exact Nat.le_trans len8 (by decide), fun H13 s13 => ⟨by show 2 ≤ sizeLine; decide, fun F nF => ?_⟩⟩
        rw [price_perm pr u] at *
        have s14 := same_new (o := .lst [.int (priceI ps u), .int (priceI ps u)]) nF
        have hF14 : (upd H13 F (.lst [.int (priceI ps u), .int (priceI ps u)])) F = some (.lst [.int (priceI ps u), .int (priceI ps u)]) := upd_same
        generalize upd H13 F (.lst [.int (priceI ps u), .int (priceI ps u)]) = H14 at s14 hF14 ⊢
        have b14 : But b H9 H14 := ((But.of (s10.trans s11)).trans b12).trans (But.of (s13.trans s14))
        have hb14 := s14 _ _ (s13 _ _ hb12)
        have hp14 := b14 _ _ hp9 npb
        have hc14 := b14 _ _ hc9 ncb
        have tdL14 := tdL9.buts b14
        have tdM14 := td9.buts b14
        dsimp only [gName, List.set]
        refine ⟨_, rfl, _, rfl, _, rfl, by show 2 ≤ sizeLine; decide, fun F2 nF2 => ?_⟩
        have s15 := same_new (o := .lst [.int (priceI ps u), .int (priceI ps u)]) nF2
        refine ⟨.list [.int (priceI ps u), .int (priceI ps u)], .list [.int (priceI ps u), .int (priceI ps u)], .lst (SqL.of (s15 _ _ hF14)) (.cons (.int _) (.cons (.int _) .nil)), .lst (SqL.of upd_same) (.cons (.int _) (.cons (.int _) .nil)), rfl, rfl, _, rfl, iteNeg (by rw [eqv_ii]; decide) ?_⟩
        refine ⟨_, rfl, F, _, _, .int (priceI ps u), rfl, rfl, SqL.of (s15 _ _ hF14), rfl, _, _, _, _, _, rfl, .ty _, .base (.int _), kit_ty (r := false) (by decide +kernel), _, rfl, iteNeg (by decide) ?_⟩
        refine ⟨_, rfl, F, _, _, .int (priceI ps u), rfl, rfl, SqL.of (s15 _ _ hF14), rfl, _, _, _, _, _, rfl, .ty _, .base (.int _), kit_ty (r := true) (by decide +kernel), _, rfl, iteNeg (by decide) ?_⟩
        generalize upd H14 F2 (.lst [.int (priceI ps u), .int (priceI ps u)]) = H15 at s15 ⊢
        have tdL15 := tdL14.same s15
        have tdM15 := tdM14.same s15
        have hp15 := s15 _ _ hp14
        have hb15 := s15 _ _ hb14
        have hc15 := s15 _ _ hc14
        obtain ⟨L', zs2, eL, _, hL15, ed2, hz2⟩ := tdL15.lstE
        cases eL
        obtain ⟨M', ws, eM, _, hM15, edw, hw⟩ := tdM15.lstE
        cases eM
        have lz2 : zs2.length = ps.length := by
          have := congrArg List.length ed2
          simpa using this
        have lw : ws.length = qs.length := by
          have := congrArg List.length edw
          simpa using this
        refine ⟨_, rfl, _, rfl, L, M, _, _, rfl, rfl, hL15, hM15, ?_, fun R nR => ?_⟩
        · rw [List.length_map, List.length_map, lz2, lw]
          exact Nat.le_trans (show ps.length + qs.length ≤ 60 by omega) (by decide)
        have nRb : R ≠ b := (ne_of_none hb15 nR).symm
        have s16 := same_new (o := .lst (zs2.map Prod.fst ++ ws.map Prod.fst)) nR
        have tdR : Td (fun x => x = b) (upd H15 R (.lst (zs2.map Prod.fst ++ ws.map Prod.fst))) (.ref R) (.list ((ps ++ qs).map dPl)) := .lst (zs := zs2 ++ ws) nRb (by rw [upd_same, List.map_append]) (by rw [List.map_append, List.map_append, ed2, edw]) fun z hz => by
          rcases List.mem_append.mp hz with hz | hz
          · exact (hz2 z hz).same s16
          · exact (hw z hz).same s16
        generalize upd H15 R (.lst (zs2.map Prod.fst ++ ws.map Prod.fst)) = H16 at s16 tdR ⊢
        refine ⟨_, rfl, (fun x => x = b), R, p, ps ++ qs, u, rfl, tdR, s16 _ _ hp15, hu100, fun x hx => (List.mem_append.mp hx).elim (okp x) (okq x), by rw [List.length_append]; omega, fun H17 s17 => ?_⟩
        have s157 := s16.trans s17
        refine ⟨_, rfl, _, rfl, _, rfl, (fun x => x = b), M, p, qs, u, rfl, tdM15.same s157, s157 _ _ hp15, hu100, okq, Nat.le_trans len9 (by decide), fun H18 s18 => ⟨_, _, rfl, rfl, rfl, _, rfl, iteNS (by rw [price_append]) ?_⟩⟩
        have s158 := s157.trans s18
        refine ⟨by show 0 ≤ sizeLine; decide, fun Z nZ => ?_⟩
        have hb18 := s158 _ _ hb15
        have nZb : Z ≠ b := (ne_of_none hb18 nZ).symm
        have s19 := same_new (o := .lst []) nZ
        refine ⟨_, rfl, (fun x => x = b), Z, p, [], u, rfl, .lst (zs := []) nZb upd_same rfl (fun z hz => nomatch hz), s19 _ _ (s158 _ _ hp15), hu100, (fun x hx => nomatch hx), by decide, fun H20 s20 => ⟨rfl, _, rfl, iteNS (by rfl) ?_⟩⟩
        have s150 := s158.trans (s19.trans s20)
        -- through
        have hb20 := s150 _ _ hb15
        have hp20 := s150 _ _ hp15
        have tdL20 := tdL15.same s150
        have tdM20 := tdM15.same s150
        have hL20 := s150 _ _ hL15
        have hz20 : ∀ z ∈ zs2, Td (fun x => x = b) H20 z.1 z.2 := fun z hz => (hz2 z hz).same s150
        refine ⟨_, rfl, L, rfl, ⟨_, SqL.of hL20⟩, fun D nD => ?_⟩
        have nDb : D ≠ b := (ne_of_none hb20 nD).symm
        refine lc_all (walk_list (xs := zs2.map Prod.fst)) (fun _ => False) (fun i ds H => ds = (ps.take i).map fun q => dPl (q.1, dot3 q.1 u)) (by rw [List.length_map, lz2]; omega) nD id (fun _ _ _ _ h => h) (by simp) (fun i ds H k _ => SqL.of (k.same _ _ hL20)) (fun i x ds H21 H21' Ky Kn hi k21 hD21 hI hy yes no => ?_) (fun H21 zs3 k21 hD21 hz3 len3 hI => ?_)
        · obtain ⟨rfl, hx⟩ := hy
          obtain ⟨z, hz1, rfl⟩ := getL hx
          obtain ⟨pl, hpl, ez⟩ := mem_at ed2 hz1
          have tz := (hz20 z (List.mem_of_getElem? hz1)).also nD
          rw [ez] at tz
          obtain ⟨t, v1, v2, e1, _, ht, t1', t2'⟩ := tz.tup2E
          obtain ⟨g1, rfl, nn, hn⟩ := t1'.v3E
          cases t2'.intE
          rw [e1]
          have hok := okp pl (List.mem_of_getElem? hpl)
          have s21 := k21.same
          refine ⟨t, _, rfl, SqT.of (s21 _ _ ht), rfl, _, _, rfl, _, _, rfl, rfl, rfl, ?_⟩
          refine ⟨_, rfl, _, rfl, _, rfl, g1, p, pl.1, u, rfl, s21 _ _ hn, s21 _ _ hp20, hok.1.mono (by decide), hu100.mono (by decide), fun H22 s22 => ⟨by show 2 ≤ sizeLine; decide, fun e ne => ?_⟩⟩
          have hDe : e ≠ D := fun z => by
            subst z
            cases eD : H21' e with
            | none => exact hD21 eD
            | some o => rw [s22 _ _ eD] at ne; cases ne
          refine yes _ _ (dPl (pl.1, dot3 pl.1 u)) (Kp.of (s22.trans (same_new ne))) (Td.mk2 (v1 := .ref g1) (v2 := .int (dot3 pl.1 u)) (fun z => z.elim id hDe) upd_same (Td.mk_v3 (fun z => nn (z.elim False.elim .inr)) ((s22.trans (same_new ne)) _ _ (s21 _ _ hn))) (.int _)) ?_
          rw [hI, List.take_add_one, hpl, List.map_append]
          rfl
        · have s21 := k21.same
          have hb21 := s21 _ _ hb20
          have tdD : Td (fun x => False) H21 (.ref D) (.list ((ps.map fun q => (q.1, dot3 q.1 u)).map dPl)) := .lst id hD21 (by
            rw [hI, List.length_map, lz2, List.take_of_length_le (Nat.le_refl _), List.map_map]
            rfl) fun z hz => (hz3 z hz).wk (fun _ z => z.elim)
          refine ⟨_, rfl, _, rfl, (fun _ => False), D, p, ps.map fun q => (q.1, dot3 q.1 u), u, rfl, tdD, s21 _ _ hp20, hu100, fun x hx => ?_, by rw [List.length_map]; exact Nat.le_trans len8 (by decide), fun H22 s22 => ⟨rfl, _, rfl, iteNS (by rw [price_through]) ?_⟩⟩
          · obtain ⟨y, hy, rfl⟩ := List.mem_map.mp hx
            exact ⟨(okp y hy).1, lt_up ((okp y hy).1.dot hu100) (by decide)⟩
          have s202 := s21.trans s22
          refine ⟨_, rfl, _, rfl, by show 2 ≤ sizeLine; decide, fun t2 nt2 => ?_⟩
          have nt2b : t2 ≠ b := (ne_of_none (s202 _ _ hb20) nt2).symm
          have s23 := same_new (o := .lst [.ref L, .ref M]) nt2
          have ht23 : (upd H22 t2 (.lst [.ref L, .ref M])) t2 = some (.lst [.ref L, .ref M]) := upd_same
          generalize upd H22 t2 (.lst [.ref L, .ref M]) = H23 at s23 ht23 ⊢
          have s203 := s202.trans s23
          have td23 : Td (fun x => x = b) H23 (.ref t2) (dRows ps qs) := Td.mkL2 nt2b ht23 (tdL20.same s203) (tdM20.same s203)
          have sf2 := str_rows (K := K) td23 hs8 hs9 len8 len9
          refine ⟨_, dRows ps qs, rfl, sf2.1, sf2.2.1, sf2.2.2.1, sf2.2.2.2.1, sf2.2.2.2.2, _, rfl, rfl, _, rfl, iteNS rfl ?_⟩
          exact ⟨_, _, _, _, _, _, _, _, _, _, o12, rfl, s203 _ _ (s150 _ _ hc15), s203 _ _ hb20, hB12.mono (by omega)⟩
      · obtain ⟨y4, y5, y6, y7, y8, y9, y10, y11, y12, y13, o, rfl, hc5, hb5, hB5⟩ := h
        exact ⟨_, _, _, _, _, _, _, _, _, _, _, _, rfl, hc5⟩
    · exact q _
end
theorem all_mk {l : PySem.W.OpenLaw} {w : World} {K : PySem.W.Frag} {h : Heap} {mg : Str → Option Value} {fa f0 f1 f2 f3 f4 f5 f6 f7 f8 f9 f10 : Addr} (X : K.In h) (G : h.Ns mainGlobals mg) (hfa : mg "law" = some (.ref fa))
    {od0 an0 : Option Addr} {sl0 : Array (Option Value)} {oc0 kV0 dc0 pm0 cd0 ct0 : Value}
    {od1 an1 : Option Addr} {sl1 : Array (Option Value)} {oc1 kV1 dc1 pm1 cd1 ct1 : Value}
    {od2 an2 : Option Addr} {sl2 : Array (Option Value)} {oc2 kV2 dc2 pm2 cd2 ct2 : Value}
    {od3 an3 : Option Addr} {sl3 : Array (Option Value)} {oc3 kV3 dc3 pm3 cd3 ct3 : Value}
    {od4 an4 : Option Addr} {sl4 : Array (Option Value)} {oc4 kV4 dc4 pm4 cd4 ct4 : Value}
    {od5 an5 : Option Addr} {sl5 : Array (Option Value)} {oc5 kV5 dc5 pm5 cd5 ct5 : Value}
    {od6 an6 : Option Addr} {sl6 : Array (Option Value)} {oc6 kV6 dc6 pm6 cd6 ct6 : Value}
    {od7 an7 : Option Addr} {sl7 : Array (Option Value)} {oc7 kV7 dc7 pm7 cd7 ct7 : Value}
    {od8 an8 : Option Addr} {sl8 : Array (Option Value)} {oc8 kV8 dc8 pm8 cd8 ct8 : Value}
    {od9 an9 : Option Addr} {sl9 : Array (Option Value)} {oc9 kV9 dc9 pm9 cd9 ct9 : Value}
    {od10 an10 : Option Addr} {sl10 : Array (Option Value)} {oc10 kV10 dc10 pm10 cd10 ct10 : Value}
    (a0 : PySem.W.nsIn K mainGlobals "dot_of" = some (some (.ref f0))) (l0 : K.lookup f0 = some ⟨oc0, od0, .func (PySem.W.fnOf "dot_of" "dot_of" (defArgs s_dot_of) (defBody s_dot_of) (defScope s_dot_of) .none kV0 dc0 pm0 an0 cd0 ct0), sl0⟩) (c0 : PySem.W.codeIn K cd0 "dot_of" = true) (k0 : PySem.W.keepIn K (.ref f0) = true)
    (a1 : PySem.W.nsIn K mainGlobals "price_at" = some (some (.ref f1))) (l1 : K.lookup f1 = some ⟨oc1, od1, .func (PySem.W.fnOf "price_at" "price_at" (defArgs s_price_at) (defBody s_price_at) (defScope s_price_at) .none kV1 dc1 pm1 an1 cd1 ct1), sl1⟩) (c1 : PySem.W.codeIn K cd1 "price_at" = true) (k1 : PySem.W.keepIn K (.ref f1) = true)
    (a2 : PySem.W.nsIn K mainGlobals "_law_box" = some (some (.ref f2))) (l2 : K.lookup f2 = some ⟨oc2, od2, .func (PySem.W.fnOf "_law_box" "_law_box" (defArgs s_Lbox) (defBody s_Lbox) (defScope s_Lbox) .none kV2 dc2 pm2 an2 cd2 ct2), sl2⟩) (c2 : PySem.W.codeIn K cd2 "_law_box" = true) (k2 : PySem.W.keepIn K (.ref f2) = true)
    (a3 : PySem.W.nsIn K mainGlobals "_law_take" = some (some (.ref f3))) (l3 : K.lookup f3 = some ⟨oc3, od3, .func (PySem.W.fnOf "_law_take" "_law_take" (defArgs s_Ltake) (defBody s_Ltake) (defScope s_Ltake) .none kV3 dc3 pm3 an3 cd3 ct3), sl3⟩) (c3 : PySem.W.codeIn K cd3 "_law_take" = true) (k3 : PySem.W.keepIn K (.ref f3) = true)
    (a4 : PySem.W.nsIn K mainGlobals "_law_folded" = some (some (.ref f4))) (l4 : K.lookup f4 = some ⟨oc4, od4, .func (PySem.W.fnOf "_law_folded" "_law_folded" (defArgs s_Lfolded) (defBody s_Lfolded) (defScope s_Lfolded) .none kV4 dc4 pm4 an4 cd4 ct4), sl4⟩) (c4 : PySem.W.codeIn K cd4 "_law_folded" = true) (k4 : PySem.W.keepIn K (.ref f4) = true)
    (a5 : PySem.W.nsIn K mainGlobals "_law_dot" = some (some (.ref f5))) (l5 : K.lookup f5 = some ⟨oc5, od5, .func (PySem.W.fnOf "_law_dot" "_law_dot" (defArgs s_Ldot) (defBody s_Ldot) (defScope s_Ldot) .none kV5 dc5 pm5 an5 cd5 ct5), sl5⟩) (c5 : PySem.W.codeIn K cd5 "_law_dot" = true) (k5 : PySem.W.keepIn K (.ref f5) = true)
    (a6 : PySem.W.nsIn K mainGlobals "_law_shuffled" = some (some (.ref f6))) (l6 : K.lookup f6 = some ⟨oc6, od6, .func (PySem.W.fnOf "_law_shuffled" "_law_shuffled" (defArgs s_Lshuffled) (defBody s_Lshuffled) (defScope s_Lshuffled) .none kV6 dc6 pm6 an6 cd6 ct6), sl6⟩) (c6 : PySem.W.codeIn K cd6 "_law_shuffled" = true) (k6 : PySem.W.keepIn K (.ref f6) = true)
    (a7 : PySem.W.nsIn K mainGlobals "_law_numbers" = some (some (.ref f7))) (l7 : K.lookup f7 = some ⟨oc7, od7, .func (PySem.W.fnOf "_law_numbers" "_law_numbers" (defArgs s_Lnumbers) (defBody s_Lnumbers) (defScope s_Lnumbers) .none kV7 dc7 pm7 an7 cd7 ct7), sl7⟩) (c7 : PySem.W.codeIn K cd7 "_law_numbers" = true) (k7 : PySem.W.keepIn K (.ref f7) = true)
    (a8 : PySem.W.nsIn K mainGlobals "_law_row" = some (some (.ref f8))) (l8 : K.lookup f8 = some ⟨oc8, od8, .func (PySem.W.fnOf "_law_row" "_law_row" (defArgs s_Lrow) (defBody s_Lrow) (defScope s_Lrow) .none kV8 dc8 pm8 an8 cd8 ct8), sl8⟩) (c8 : PySem.W.codeIn K cd8 "_law_row" = true) (k8 : PySem.W.keepIn K (.ref f8) = true)
    (a9 : PySem.W.nsIn K mainGlobals "_law_due" = some (some (.ref f9))) (l9 : K.lookup f9 = some ⟨oc9, od9, .func (PySem.W.fnOf "_law_due" "_law_due" (defArgs s_Ldue) (defBody s_Ldue) (defScope s_Ldue) .none kV9 dc9 pm9 an9 cd9 ct9), sl9⟩) (c9 : PySem.W.codeIn K cd9 "_law_due" = true) (k9 : PySem.W.keepIn K (.ref f9) = true)
    (a10 : PySem.W.nsIn K mainGlobals "law" = some (some (.ref f10))) (l10 : K.lookup f10 = some ⟨oc10, od10, .func (PySem.W.fnOf "law" "law" (defArgs s_law) (defBody s_law) (defScope s_law) .none kV10 dc10 pm10 an10 cd10 ct10), sl10⟩) (c10 : PySem.W.codeIn K cd10 "law" = true) (k10 : PySem.W.keepIn K (.ref f10) = true)
    (z_abs : PySem.W.nsIn K mainGlobals "abs" = some none)
    (z_bool : PySem.W.nsIn K mainGlobals "bool" = some none)
    (z_enumerate : PySem.W.nsIn K mainGlobals "enumerate" = some none)
    (z_int : PySem.W.nsIn K mainGlobals "int" = some none)
    (z_isinstance : PySem.W.nsIn K mainGlobals "isinstance" = some none)
    (z_len : PySem.W.nsIn K mainGlobals "len" = some none)
    (z_list : PySem.W.nsIn K mainGlobals "list" = some none)
    (z_max : PySem.W.nsIn K mainGlobals "max" = some none)
    (z_range : PySem.W.nsIn K mainGlobals "range" = some none)
    (z_str : PySem.W.nsIn K mainGlobals "str" = some none)
    (z_sum : PySem.W.nsIn K mainGlobals "sum" = some none)
    (z_tuple : PySem.W.nsIn K mainGlobals "tuple" = some none)
    (z_zip : PySem.W.nsIn K mainGlobals "zip" = some none)
    : ∃ fd : FuncData, (∀ (s : Shared) (v : Value), BindsTo s fd ⟨[v], []⟩ [("_law_script", v)]) ∧ ∀ base : Heap, K.In base → base.Ns mainGlobals mg → GL.FnG l.prog w K mg base 4 fa fd ["_law_script"] (spLaw K) := by
  have e := hfa.symm.trans (PySem.W.mg_of X G a10)
  cases e
  have F0 := fun_mk (st := s_dot_of) l0 c0 k0
  have b0 := F0.binds (ps := ["one", "other"]) fun _ _ _ _ _ _ us hl => match us, hl with | [_, _], _ => rfl
  have F1 := fun_mk (st := s_price_at) l1 c1 k1
  have b1 := F1.binds (ps := ["planes", "place"]) fun _ _ _ _ _ _ us hl => match us, hl with | [_, _], _ => rfl
  have F2 := fun_mk (st := s_Lbox) l2 c2 k2
  have b2 := F2.binds (ps := ["_law_cells", "_law_k"]) fun _ _ _ _ _ _ us hl => match us, hl with | [_, _], _ => rfl
  have F3 := fun_mk (st := s_Ltake) l3 c3 k3
  have b3 := F3.binds (ps := ["_law_box_here", "_law_many"]) fun _ _ _ _ _ _ us hl => match us, hl with | [_, _], _ => rfl
  have F4 := fun_mk (st := s_Lfolded) l4 c4 k4
  have b4 := F4.binds (ps := ["_law_script", "_law_many"]) fun _ _ _ _ _ _ us hl => match us, hl with | [_, _], _ => rfl
  have F5 := fun_mk (st := s_Ldot) l5 c5 k5
  have b5 := F5.binds (ps := ["_law_one", "_law_other"]) fun _ _ _ _ _ _ us hl => match us, hl with | [_, _], _ => rfl
  have F6 := fun_mk (st := s_Lshuffled) l6 c6 k6
  have b6 := F6.binds (ps := ["_law_box_here", "_law_some"]) fun _ _ _ _ _ _ us hl => match us, hl with | [_, _], _ => rfl
  have F7 := fun_mk (st := s_Lnumbers) l7 c7 k7
  have b7 := F7.binds (ps := ["_law_box_here", "_law_most"]) fun _ _ _ _ _ _ us hl => match us, hl with | [_, _], _ => rfl
  have F8 := fun_mk (st := s_Lrow) l8 c8 k8
  have b8 := F8.binds (ps := ["_law_box_here", "_law_place"]) fun _ _ _ _ _ _ us hl => match us, hl with | [_, _], _ => rfl
  have F9 := fun_mk (st := s_Ldue) l9 c9 k9
  have b9 := F9.binds (ps := ["_law_row_here", "_law_place"]) fun _ _ _ _ _ _ us hl => match us, hl with | [_, _], _ => rfl
  have F10 := fun_mk (st := s_law) l10 c10 k10
  have b10 := F10.binds (ps := ["_law_script"]) fun _ _ _ _ _ _ us hl => match us, hl with | [_], _ => rfl
  let T : Tx K mg := {
    a_dot_of := f0, f_dot_of := _, d_dot_of := ⟨F0, PySem.W.mg_of X G a0, b0⟩,
    a_price_at := f1, f_price_at := _, d_price_at := ⟨F1, PySem.W.mg_of X G a1, b1⟩,
    a_Lbox := f2, f_Lbox := _, d_Lbox := ⟨F2, PySem.W.mg_of X G a2, b2⟩,
    a_Ltake := f3, f_Ltake := _, d_Ltake := ⟨F3, PySem.W.mg_of X G a3, b3⟩,
    a_Lfolded := f4, f_Lfolded := _, d_Lfolded := ⟨F4, PySem.W.mg_of X G a4, b4⟩,
    a_Ldot := f5, f_Ldot := _, d_Ldot := ⟨F5, PySem.W.mg_of X G a5, b5⟩,
    a_Lshuffled := f6, f_Lshuffled := _, d_Lshuffled := ⟨F6, PySem.W.mg_of X G a6, b6⟩,
    a_Lnumbers := f7, f_Lnumbers := _, d_Lnumbers := ⟨F7, PySem.W.mg_of X G a7, b7⟩,
    a_Lrow := f8, f_Lrow := _, d_Lrow := ⟨F8, PySem.W.mg_of X G a8, b8⟩,
    a_Ldue := f9, f_Ldue := _, d_Ldue := ⟨F9, PySem.W.mg_of X G a9, b9⟩,
    a_law := fa, f_law := _, d_law := ⟨F10, PySem.W.mg_of X G a10, b10⟩,
    z_abs := PySem.W.mg_none_of X G z_abs, z_bool := PySem.W.mg_none_of X G z_bool, z_enumerate := PySem.W.mg_none_of X G z_enumerate, z_int := PySem.W.mg_none_of X G z_int, z_isinstance := PySem.W.mg_none_of X G z_isinstance, z_len := PySem.W.mg_none_of X G z_len, z_list := PySem.W.mg_none_of X G z_list, z_max := PySem.W.mg_none_of X G z_max, z_range := PySem.W.mg_none_of X G z_range, z_str := PySem.W.mg_none_of X G z_str, z_sum := PySem.W.mg_none_of X G z_sum, z_tuple := PySem.W.mg_none_of X G z_tuple, z_zip := PySem.W.mg_none_of X G z_zip }
  exact ⟨_, fun s v => .of_eq rfl, fun base _ _ => ok_law T⟩
end K32
open PySem PySem.W PyProof.Rows
set_option maxHeartbeats 0 in
theorem PySem.Challenge.cw_thinskin_k32_prices_at_places_holds : PySem.Challenge.rw_thinskin_k32_prices_at_places.Holds := by
  w_on; o_law; k_head; (case hw => w_witness2)
  k_fill
  refine GL.walkG (l := PySem.Challenge.rw_thinskin_k32_prices_at_places) (n := 63) (k := 4) (x := "_law_script") (sp := fun w => K32.spLaw _) rfl (by decide) rfl ⟨rfl, by decide, by decide⟩ (fun w h Y => PySem.W.kIn_of Y) ?F (fun _ _ a ns hl _ hS => ⟨a, ns, rfl, hS, hl, fun _ => rfl⟩)
  case F =>
    intro w mg fa h KX G hmg
    refine' K32.all_mk KX G hmg ?a0 ?l0 ?c0 ?k0 ?a1 ?l1 ?c1 ?k1 ?a2 ?l2 ?c2 ?k2 ?a3 ?l3 ?c3 ?k3 ?a4 ?l4 ?c4 ?k4 ?a5 ?l5 ?c5 ?k5 ?a6 ?l6 ?c6 ?k6 ?a7 ?l7 ?c7 ?k7 ?a8 ?l8 ?c8 ?k8 ?a9 ?l9 ?c9 ?k9 ?a10 ?l10 ?c10 ?k10 ?z_abs ?z_bool ?z_enumerate ?z_int ?z_isinstance ?z_len ?z_list ?z_max ?z_range ?z_str ?z_sum ?z_tuple ?z_zip
    (case a0 => k_is); (case l0 => k_is); (case c0 => k_is); (case k0 => k_is); (case a1 => k_is); (case l1 => k_is); (case c1 => k_is); (case k1 => k_is); (case a2 => k_is); (case l2 => k_is); (case c2 => k_is); (case k2 => k_is); (case a3 => k_is); (case l3 => k_is); (case c3 => k_is); (case k3 => k_is); (case a4 => k_is); (case l4 => k_is); (case c4 => k_is); (case k4 => k_is); (case a5 => k_is); (case l5 => k_is); (case c5 => k_is); (case k5 => k_is); (case a6 => k_is); (case l6 => k_is); (case c6 => k_is); (case k6 => k_is); (case a7 => k_is); (case l7 => k_is); (case c7 => k_is); (case k7 => k_is); (case a8 => k_is); (case l8 => k_is); (case c8 => k_is); (case k8 => k_is); (case a9 => k_is); (case l9 => k_is); (case c9 => k_is); (case k9 => k_is); (case a10 => k_is); (case l10 => k_is); (case c10 => k_is); (case k10 => k_is); (case z_abs => k_is); (case z_bool => k_is); (case z_enumerate => k_is); (case z_int => k_is); (case z_isinstance => k_is); (case z_len => k_is); (case z_list => k_is); (case z_max => k_is); (case z_range => k_is); (case z_str => k_is); (case z_sum => k_is); (case z_tuple => k_is); (case z_zip => k_is)

