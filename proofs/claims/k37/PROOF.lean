import PyProof.Rows.All
import Wide.All
import OpenK.AllK
import Wide.FinOn
import PyProof.ReprRoads
import PyProof.ReprLen
import HandS.ForMost
import HandS.Conv
import HandS.IsInst
import HandS.TupAny
import HandS.TupMul
import HandS.Wide
import HandS.Style
import HandS.Evl
import HandS.Strs
import HandS.Codes
import HandS.StrMore
import HandS.Replace
import PySem.Challenge.RW_sortedshelves_k37_made_comparisons
import HandS.Zip
import KE.KDictZip
import HandS.Walk
import HandS.Deep
import KE.KDictDisplayH
import HandS.ExcOwn
import HandS.Exc
import HandS.TryMany
import HandS.WordsExc
import HandS.TryOnly
import PyProof.Rows.RegFStrParts
import PyProof.Rows.ReprShort
set_option Elab.async false
set_option linter.all false
set_option maxRecDepth 100000
set_option maxHeartbeats 4000000
namespace Ver
open PySem PySem.Spec PyProof.Rows L2
set_option pp.maxSteps 60
set_option pp.deepTerms false
/-! ### a zip of two tuples whose pairs are kept by a plain name -/
abbrev ZAny (h : Heap) (z tin tout : Addr) (f0 : Value) (fl : Bool) : Prop :=
  h.get? z = some { cls := .type "zip", dict := none, data := .fields #[f0, .bool fl, .bool false, .ref tin, .ref tout], slots := #[] }
/-- what a zip can have of a pair that it gave out -/
def Gave (f0 : Value) : Prop := f0 = .none ∨ ∃ t : Addr, f0 = rawInt t
section
variable {prog : Program} {w : World} {A : Around} {E : Value → Shared → Prop} {s : Shared}
theorem dead_ask {a : Addr} {Q : Option Obj → Shared → Prop} (q : s.heap.get? a = none) (h : Q none s) : wpAny (model prog w) A (loadIfAlive a) Q E s := by
  have k : Q (s.heap.get? a) s := q ▸ h
  exact fun _ _ _ => k
theorem owned_ask {z tin tout : Addr} {f0 : Value} {fl : Bool} {Q : Bool → Shared → Prop} (hz : ZAny s.heap z tin tout f0 fl) (hf : Gave f0) (free : Q true s)
    (held : ∀ g, ZAny g z tin tout f0 true → Heap.SameBut z s.heap g → Q false { s with heap := g }) : wpAny (model prog w) A (Builtin.SmallTypes.ownedTupleIsFree (.ref z)) Q E s := by
  rcases hf with rfl | ⟨t, rfl⟩
  · unfold Builtin.SmallTypes.ownedTupleIsFree; exact wpAny_bind (wpAny_field hz rfl (x := .none) rfl (wpAny_pure free))
  · cases ht : s.heap.get? t with
    | none =>
      unfold Builtin.SmallTypes.ownedTupleIsFree; refine wpAny_bind (wpAny_field hz rfl (x := rawInt t) rfl ?_)
      show wpAny _ _ (loadIfAlive ((t : Int).toNat) >>= _) _ _ _
      rw [Int.toNat_natCast]
      refine wpAny_bind (dead_ask ht ?_)
      simp only [Option.isNone_none, if_true]
      exact wpAny_pure free
    | some o =>
      unfold Builtin.SmallTypes.ownedTupleIsFree; refine wpAny_bind (wpAny_field hz rfl (x := rawInt t) rfl ?_)
      show wpAny _ _ (loadIfAlive ((t : Int).toNat) >>= _) _ _ _
      rw [Int.toNat_natCast]
      refine wpAny_bind (PySem.W.kdx_alive ht ?_)
      simp only [Option.isNone_some, Bool.false_eq_true, if_false]
      refine wpAny_bind (wpAny_field hz rfl (x := .bool fl) rfl ?_)
      cases fl with
      | true => rw [if_neg (show ¬ ((Value.bool true != Value.bool true) = true) by decide)]; exact wpAny_pure (held s.heap hz (Heap.SameBut.refl _ _))
      | false => rw [if_pos (show (Value.bool false != Value.bool true) = true by decide)]; exact wpAny_bind (wpAny_setField_rec hz (by simp) fun g gz gs => wpAny_pure (held g gz gs))
theorem zipN_step {z tin tout p1 p2 l1 l2 : Addr} {k1 k2 : Nat} {xs ys : Array Value} {x y a b f0 : Value} {fl : Bool} {Q : Value → Shared → Prop} (D : ZipApart z tin tout p1 p2 l1 l2)
    (hz : ZAny s.heap z tin tout f0 fl) (hf : Gave f0) (hin : IsPair s.heap tin (.ref p1) (.ref p2)) (hout : IsPair s.heap tout a b)
    (h1 : s.heap.IsTupleIter p1 l1 k1) (h2 : s.heap.IsTupleIter p2 l2 k2) (hl1 : s.heap.IsTuple l1 xs) (hl2 : s.heap.IsTuple l2 ys) (hx : xs[k1]? = some x) (hy : ys[k2]? = some y)
    (fin : ∀ g e0 el a' b', Gave e0 → ZAny g z tin tout e0 el → IsPair g tout a' b' → g.IsTupleIter p1 l1 (k1 + 1) → g.IsTupleIter p2 l2 (k2 + 1) → IsPair g s.heap.objs.size x y → g.objs.size = s.heap.objs.size + 1 →
      (∀ c o, c ≠ z → c ≠ tout → c ≠ p1 → c ≠ p2 → s.heap.get? c = some o → g.get? c = some o) → Q (.ref s.heap.objs.size) { s with heap := g }) :
    wpAny (model prog w) A (Builtin.«zip.__next__» ⟨[.ref z], []⟩) (fun r s' => ∃ v, r = .done (.ret v) ∧ Q v s') E s := by
  show wpAny _ _ (field (.ref z) 2 >>= _) _ _ s
  refine wpAny_bind (wpAny_field hz rfl (x := .bool false) rfl ?_)
  show wpAny _ _ (field (.ref z) 3 >>= _) _ _ s
  refine wpAny_bind (wpAny_field hz rfl (x := .ref tin) rfl ?_)
  refine wpAny_bind (wpAny_seqItems hin rfl ?_)
  show wpAny _ _ (Builtin.SmallTypes.ownedTupleIsFree (.ref z) >>= _) _ _ s
  refine wpAny_bind (owned_ask hz hf ?_ fun g1 z1 b1 => ?_)
  · simp only [if_true]
    refine wpAny_bind (wpAny_rule ?_)
    refine wpAny_bind (wpAny_field hz rfl (x := .ref tout) rfl ?_)
    refine wpAny_bind (wpAny_setField_rec hz (by simp) fun g1 z1 b1 => ?_)
    replace z1 : ZAny g1 z tin tout .ellipsis fl := z1
    refine wpAny_bind ?_
    simp only [List.zipIdx_cons, List.zipIdx_nil, List.forIn_cons, List.forIn_nil]
    refine wpAny_bind (wpAny_bind (wpAny_onRaise ?_))
    show wpAny _ _ (Builtin.SmallTypes.nextOf (.ref p1) >>= _) _ _ _
    refine wpAny_bind (RZ.nextOf_tuple_item (h1.extBut b1.extBut D.i1z) (hl1.extBut b1.extBut D.l1z) hx fun g2 n1 b2 => wpAny_pure ?_)
    have o2 : IsPair g2 tout a b := b2.extBut _ _ D.TOi1 (b1.extBut _ _ D.TOz hout)
    refine wpAny_bind (wpAny_seqItems o2 rfl ?_)
    refine wpAny_bind (wpAny_updateSeq_pair o2 fun g3 o3 b3 => ?_)
    replace o3 : IsPair g3 tout x b := o3
    refine wpAny_bind (wpAny_letGo (wpAny_pure ?_))
    refine wpAny_bind (wpAny_bind (wpAny_onRaise ?_))
    show wpAny _ _ (Builtin.SmallTypes.nextOf (.ref p2) >>= _) _ _ _
    refine wpAny_bind (RZ.nextOf_tuple_item (((h2.extBut b1.extBut D.i2z).extBut b2.extBut D.i12.symm).extBut b3.extBut D.TOi2.symm)
      (((hl2.extBut b1.extBut D.l2z).extBut b2.extBut D.l2i1).extBut b3.extBut D.l2TO) hy fun g4 n2 b4 => wpAny_pure ?_)
    have o4 : IsPair g4 tout x b := b4.extBut _ _ D.TOi2 o3
    refine wpAny_bind (wpAny_seqItems o4 rfl ?_)
    refine wpAny_bind (wpAny_updateSeq_pair o4 fun g5 o5 b5 => ?_)
    replace o5 : IsPair g5 tout x y := o5
    refine wpAny_bind (wpAny_letGo (wpAny_pure (wpAny_pure ?_)))
    refine wpAny_bind (wpAny_seqItems o5 rfl ?_)
    refine wpAny_bind (wpAny_newTuple ?_)
    have sz : g5.objs.size = s.heap.objs.size := by rw [b5.1, b4.1, b3.1, b2.1, b1.1]
    have z5 : ZAny g5 z tin tout .ellipsis fl := b5.extBut _ _ D.TOz.symm (b4.extBut _ _ D.i2z.symm (b3.extBut _ _ D.TOz.symm (b2.extBut _ _ D.i1z.symm z1)))
    have keep : ∀ c o, c ≠ z → c ≠ tout → c ≠ p1 → c ≠ p2 → s.heap.get? c = some o → g5.get? c = some o := fun c o c1 c2 c3 c4 e =>
      b5.extBut _ _ c2 (b4.extBut _ _ c4 (b3.extBut _ _ c2 (b2.extBut _ _ c3 (b1.extBut _ _ c1 e))))
    have m1 : g5.IsTupleIter p1 l1 (k1 + 1) := ((n1.extBut b3.extBut D.TOi1.symm).extBut b4.extBut D.i12).extBut b5.extBut D.TOi1.symm
    have m2 : g5.IsTupleIter p2 l2 (k2 + 1) := n2.extBut b5.extBut D.TOi2.symm
    have lz : z < g5.objs.size := Heap.lt_size z5
    show wpAny _ _ (Builtin.SmallTypes.ownedTupleHandOut (.ref z) (.ref g5.objs.size) >>= _) _ _ _
    refine wpAny_bind ?_
    unfold Builtin.SmallTypes.ownedTupleHandOut
    have z6 : ZAny (g5.push { cls := .type "tuple", data := .seq #[x, y] }) z tin tout .ellipsis fl := Heap.get?_push_of_some _ z5
    refine wpAny_bind (wpAny_setField_rec z6 (by simp) fun g7 z7 b7 => ?_)
    replace z7 : ZAny g7 z tin tout (rawInt g5.objs.size) fl := z7
    refine wpAny_setField_rec z7 (by simp) fun g8 z8 b8 => ?_
    replace z8 : ZAny g8 z tin tout (rawInt g5.objs.size) false := z8
    have up : ∀ c o, c ≠ z → g5.get? c = some o → g8.get? c = some o := fun c o c1 e => b8.extBut _ _ c1 (b7.extBut _ _ c1 (Heap.get?_push_of_some _ e))
    have q8 : IsPair g8 g5.objs.size x y := b8.extBut _ _ (Nat.ne_of_gt lz) (b7.extBut _ _ (Nat.ne_of_gt lz) (Heap.get?_push_size _ rfl))
    have s8 : g8.objs.size = g5.objs.size + 1 := by rw [b8.1, b7.1, Heap.size_push]
    rw [sz] at z8 q8 s8
    refine wpAny_pure ⟨_, rfl, ?_⟩
    show Q (.ref g5.objs.size) _
    rw [sz]
    exact fin g8 _ _ x y (.inr ⟨_, rfl⟩) z8 (up _ _ D.TOz o5) (m1.at fun o e => up _ o D.i1z e) (m2.at fun o e => up _ o D.i2z e) q8 s8 fun c o c1 c2 c3 c4 e => up c o c1 (keep c o c1 c2 c3 c4 e)
  · simp only [Bool.false_eq_true, if_false]
    refine wpAny_bind ?_
    rw [← Array.forIn_toList]
    simp only [List.forIn_cons, List.forIn_nil]
    refine wpAny_bind (wpAny_bind (wpAny_holding ?_))
    show wpAny _ _ (Builtin.SmallTypes.nextOf (.ref p1) >>= _) _ _ _
    refine wpAny_bind (RZ.nextOf_tuple_item (s := { s with heap := g1 }) (h1.extBut b1.extBut D.i1z) (hl1.extBut b1.extBut D.l1z) hx fun g2 n1 b2 => wpAny_pure ?_)
    refine wpAny_pure ?_
    refine wpAny_bind (wpAny_bind (wpAny_holding ?_))
    show wpAny _ _ (Builtin.SmallTypes.nextOf (.ref p2) >>= _) _ _ _
    refine wpAny_bind (RZ.nextOf_tuple_item (s := { s with heap := g2 }) ((h2.extBut b1.extBut D.i2z).extBut b2.extBut D.i12.symm) ((hl2.extBut b1.extBut D.l2z).extBut b2.extBut D.l2i1) hy fun g3 n2 b3 => wpAny_pure ?_)
    refine wpAny_pure (wpAny_pure ?_)
    show wpAny _ _ (newTuple [x, y] >>= _) _ _ _
    refine wpAny_bind (wpAny_newTuple ?_)
    have sz : g3.objs.size = s.heap.objs.size := by rw [b3.1, b2.1, b1.1]
    have z3 : ZAny g3 z tin tout f0 true := b3.extBut _ _ D.i2z.symm (b2.extBut _ _ D.i1z.symm z1)
    have keep : ∀ c o, c ≠ z → c ≠ p1 → c ≠ p2 → s.heap.get? c = some o → g3.get? c = some o := fun c o c1 c2 c3 e => b3.extBut _ _ c3 (b2.extBut _ _ c2 (b1.extBut _ _ c1 e))
    have m1 : g3.IsTupleIter p1 l1 (k1 + 1) := n1.extBut b3.extBut D.i12
    refine wpAny_pure ⟨_, rfl, ?_⟩
    show Q (.ref g3.objs.size) _
    have q4 : IsPair (g3.push { cls := .type "tuple", data := .seq #[x, y] }) g3.objs.size x y := Heap.get?_push_size _ rfl
    have s4 : (g3.push { cls := .type "tuple", data := .seq #[x, y] }).objs.size = g3.objs.size + 1 := Heap.size_push ..
    rw [sz] at q4 s4 ⊢
    exact fin _ f0 true a b hf (Heap.get?_push_of_some _ z3) (Heap.get?_push_of_some _ (keep _ _ D.TOz D.TOi1 D.TOi2 hout)) (m1.at fun o e => Heap.get?_push_of_some _ e) (n2.at fun o e => Heap.get?_push_of_some _ e) q4 s4
      fun c o c1 _ c3 c4 e => Heap.get?_push_of_some _ (keep c o c1 c3 c4 e)
end
section
variable {prog : Program} {w : World} {A : Around} {E : Value → Shared → Prop} {s : Shared}
theorem zipN_last {z tin tout p1 p2 l1 l2 : Addr} {k1 k2 : Nat} {xs ys : Array Value} {a b f0 : Value} {fl : Bool} {Q : Fin → Shared → Prop} (ah : A.handled = none) (D : ZipApart z tin tout p1 p2 l1 l2)
    (hz : ZAny s.heap z tin tout f0 fl) (hf : Gave f0) (hin : IsPair s.heap tin (.ref p1) (.ref p2)) (hout : IsPair s.heap tout a b)
    (h1 : s.heap.IsTupleIter p1 l1 k1) (h2 : s.heap.IsTupleIter p2 l2 k2) (hl1 : s.heap.IsTuple l1 xs) (hl2 : s.heap.IsTuple l2 ys) (stop : xs[k1]? = none ∨ ys[k2]? = none)
    (fin : ∀ g e, (∀ c o, c ≠ z → c ≠ tout → c ≠ p1 → c ≠ p2 → s.heap.get? c = some o → g.get? c = some o) → (∃ o, g.get? e = some o ∧ o.cls = .type "StopIteration") → E (.ref e) { s with heap := g }) :
    wpAny (model prog w) A (Builtin.«zip.__next__» ⟨[.ref z], []⟩) Q E s := by
  show wpAny _ _ (field (.ref z) 2 >>= _) _ _ s
  refine wpAny_bind (wpAny_field hz rfl (x := .bool false) rfl ?_)
  show wpAny _ _ (field (.ref z) 3 >>= _) _ _ s
  refine wpAny_bind (wpAny_field hz rfl (x := .ref tin) rfl ?_)
  refine wpAny_bind (wpAny_seqItems hin rfl ?_)
  show wpAny _ _ (Builtin.SmallTypes.ownedTupleIsFree (.ref z) >>= _) _ _ s
  refine wpAny_bind (owned_ask hz hf ?_ fun g1 z1 b1 => ?_)
  · simp only [if_true]
    refine wpAny_bind (wpAny_rule ?_)
    refine wpAny_bind (wpAny_field hz rfl (x := .ref tout) rfl ?_)
    refine wpAny_bind (wpAny_setField_rec hz (by simp) fun g1 z1 b1 => ?_)
    replace z1 : ZAny g1 z tin tout .ellipsis fl := z1
    refine wpAny_bind ?_
    simp only [List.zipIdx_cons, List.zipIdx_nil, List.forIn_cons, List.forIn_nil]
    refine wpAny_bind (wpAny_bind (wpAny_onRaise ?_))
    show wpAny _ _ (Builtin.SmallTypes.nextOf (.ref p1) >>= _) _ _ _
    cases hx : xs[k1]? with
    | none =>
      refine wpAny_bind (RZ.nextOf_tuple_end ah (h1.extBut b1.extBut D.i1z) (hl1.extBut b1.extBut D.l1z) hx fun g2 e b2 he => ?_)
      obtain ⟨oe, e1, e2⟩ := he
      have z2 : ZAny g2 z tin tout .ellipsis fl := b2 _ _ D.i1z.symm z1
      have ez : e ≠ z := fun q => by subst q; rw [z2] at e1; cases e1; simp at e2
      refine wpAny_setField_rec z2 (by simp) fun g3 _ b3 => fin g3 e (fun c o c1 _ c3 _ q => b3.extBut _ _ c1 (b2 _ _ c3 (b1.extBut _ _ c1 q))) ⟨oe, b3.extBut _ _ ez e1, e2⟩
    | some x =>
      have hy : ys[k2]? = none := by rcases stop with q | q; rw [hx] at q; cases q; exact q
      refine wpAny_bind (RZ.nextOf_tuple_item (h1.extBut b1.extBut D.i1z) (hl1.extBut b1.extBut D.l1z) hx fun g2 n1 b2 => wpAny_pure ?_)
      have o2 : IsPair g2 tout a b := b2.extBut _ _ D.TOi1 (b1.extBut _ _ D.TOz hout)
      refine wpAny_bind (wpAny_seqItems o2 rfl ?_)
      refine wpAny_bind (wpAny_updateSeq_pair o2 fun g3 o3 b3 => ?_)
      refine wpAny_bind (wpAny_letGo (wpAny_pure ?_))
      refine wpAny_bind (wpAny_bind (wpAny_onRaise ?_))
      show wpAny _ _ (Builtin.SmallTypes.nextOf (.ref p2) >>= _) _ _ _
      refine wpAny_bind (RZ.nextOf_tuple_end ah (((h2.extBut b1.extBut D.i2z).extBut b2.extBut D.i12.symm).extBut b3.extBut D.TOi2.symm)
        (((hl2.extBut b1.extBut D.l2z).extBut b2.extBut D.l2i1).extBut b3.extBut D.l2TO) hy fun g4 e b4 he => ?_)
      obtain ⟨oe, e1, e2⟩ := he
      have z4 : ZAny g4 z tin tout .ellipsis fl := b4 _ _ D.i2z.symm (b3.extBut _ _ D.TOz.symm (b2.extBut _ _ D.i1z.symm z1))
      have ez : e ≠ z := fun q => by subst q; rw [z4] at e1; cases e1; simp at e2
      refine wpAny_setField_rec z4 (by simp) fun g5 _ b5 => fin g5 e (fun c o c1 c2 c3 c4 q => b5.extBut _ _ c1 (b4 _ _ c4 (b3.extBut _ _ c2 (b2.extBut _ _ c3 (b1.extBut _ _ c1 q))))) ⟨oe, b5.extBut _ _ ez e1, e2⟩
  · simp only [Bool.false_eq_true, if_false]
    refine wpAny_bind ?_
    rw [← Array.forIn_toList]
    simp only [List.forIn_cons, List.forIn_nil]
    refine wpAny_bind (wpAny_bind (wpAny_holding ?_))
    show wpAny _ _ (Builtin.SmallTypes.nextOf (.ref p1) >>= _) _ _ _
    cases hx : xs[k1]? with
    | none =>
      refine wpAny_bind (RZ.nextOf_tuple_end (s := { s with heap := g1 }) ah (h1.extBut b1.extBut D.i1z) (hl1.extBut b1.extBut D.l1z) hx fun g2 e b2 he => ?_)
      exact fin g2 e (fun c o c1 _ c3 _ q => b2 _ _ c3 (b1.extBut _ _ c1 q)) he
    | some x =>
      have hy : ys[k2]? = none := by rcases stop with q | q; rw [hx] at q; cases q; exact q
      refine wpAny_bind (RZ.nextOf_tuple_item (s := { s with heap := g1 }) (h1.extBut b1.extBut D.i1z) (hl1.extBut b1.extBut D.l1z) hx fun g2 n1 b2 => wpAny_pure ?_)
      refine wpAny_pure ?_
      refine wpAny_bind (wpAny_bind (wpAny_holding ?_))
      show wpAny _ _ (Builtin.SmallTypes.nextOf (.ref p2) >>= _) _ _ _
      refine wpAny_bind (RZ.nextOf_tuple_end (s := { s with heap := g2 }) ah ((h2.extBut b1.extBut D.i2z).extBut b2.extBut D.i12.symm) ((hl2.extBut b1.extBut D.l2z).extBut b2.extBut D.l2i1) hy fun g3 e b3 he => ?_)
      exact fin g3 e (fun c o c1 _ c3 c4 q => b3 _ _ c4 (b2.extBut _ _ c3 (b1.extBut _ _ c1 q))) he
theorem zipN_next {z tin tout p1 p2 l1 l2 : Addr} {k1 k2 : Nat} {xs ys : Array Value} {x y a b f0 : Value} {fl : Bool} {Q : Option Value → Shared → Prop} (D : ZipApart z tin tout p1 p2 l1 l2)
    (hz : ZAny s.heap z tin tout f0 fl) (hf : Gave f0) (hin : IsPair s.heap tin (.ref p1) (.ref p2)) (hout : IsPair s.heap tout a b)
    (h1 : s.heap.IsTupleIter p1 l1 k1) (h2 : s.heap.IsTupleIter p2 l2 k2) (hl1 : s.heap.IsTuple l1 xs) (hl2 : s.heap.IsTuple l2 ys) (hx : xs[k1]? = some x) (hy : ys[k2]? = some y)
    (fin : ∀ g e0 el a' b', Gave e0 → ZAny g z tin tout e0 el → IsPair g tout a' b' → g.IsTupleIter p1 l1 (k1 + 1) → g.IsTupleIter p2 l2 (k2 + 1) → IsPair g s.heap.objs.size x y → g.objs.size = s.heap.objs.size + 1 →
      (∀ c o, c ≠ z → c ≠ tout → c ≠ p1 → c ≠ p2 → s.heap.get? c = some o → g.get? c = some o) → Q (some (.ref s.heap.objs.size)) { s with heap := g }) :
    wpAny (model prog w) A (pyNext (.ref z)) Q E s := by
  have ty : s.TypeIs (.ref z) "zip" := ⟨_, hz, rfl⟩
  unfold pyNext
  exact wpAny_bind (wpAny_attempt (wpAny_callSpecial?_slot (name := Str.ofString "__next__") ty F.slot_zip_next (wpAny_call_entry F.slot_zip_next ty F.entry_zip_next
    (zipN_step D hz hf hin hout h1 h2 hl1 hl2 hx hy fun g e0 el a' b' q1 q2 q3 q4 q5 q6 q7 q8 => wpAny_pure (fin g e0 el a' b' q1 q2 q3 q4 q5 q6 q7 q8)) (F.args_zip_next_1 _))))
theorem zipN_none {z tin tout p1 p2 l1 l2 : Addr} {k1 k2 : Nat} {xs ys : Array Value} {a b f0 : Value} {fl : Bool} {Q : Option Value → Shared → Prop} (ah : A.handled = none) (D : ZipApart z tin tout p1 p2 l1 l2)
    (hz : ZAny s.heap z tin tout f0 fl) (hf : Gave f0) (hin : IsPair s.heap tin (.ref p1) (.ref p2)) (hout : IsPair s.heap tout a b)
    (h1 : s.heap.IsTupleIter p1 l1 k1) (h2 : s.heap.IsTupleIter p2 l2 k2) (hl1 : s.heap.IsTuple l1 xs) (hl2 : s.heap.IsTuple l2 ys) (stop : xs[k1]? = none ∨ ys[k2]? = none)
    (fin : ∀ g, (∀ c o, c ≠ z → c ≠ tout → c ≠ p1 → c ≠ p2 → s.heap.get? c = some o → g.get? c = some o) → Q none { s with heap := g }) : wpAny (model prog w) A (pyNext (.ref z)) Q E s := by
  have ty : s.TypeIs (.ref z) "zip" := ⟨_, hz, rfl⟩
  unfold pyNext
  refine wpAny_bind (wpAny_attempt (wpAny_callSpecial?_slot (name := Str.ofString "__next__") ty F.slot_zip_next (wpAny_call_entry F.slot_zip_next ty F.entry_zip_next
    (zipN_last ah D hz hf hin hout h1 h2 hl1 hl2 stop fun g e q he => ?_) (F.args_zip_next_1 _))))
  obtain ⟨o, e1, e2⟩ := he
  exact wpAny_bind (wpAny_isInstance (T := "StopIteration") (b := true) ⟨o, e1, e2⟩ isSubtype_stop (wpAny_pure (fin _ q)))
theorem zipN_self {z tin tout : Addr} {f0 : Value} {fl : Bool} {Q : Value → Shared → Prop} (hz : ZAny s.heap z tin tout f0 fl) (h : Q (.ref z) s) : wpAny (model prog w) A (pyIter (.ref z)) Q E s := by
  have ty : s.TypeIs (.ref z) "zip" := ⟨_, hz, rfl⟩
  refine wpAny_pyIter_slot ty F.slot_zip_iter (wpAny_call_entry F.slot_zip_iter ty F.entry_zip_iter ?_ (F.args_zip_iter_1 _))
  exact (show wpAny _ _ (ret (.ref z)) _ _ s from wpAny_pure ⟨_, rfl, "zip", _, ty, F.slot_zip_next.lookup, h⟩)
end
theorem five {z tin tout p1 p2 c : Addr} (h : c ∈ [z, tin, tout, p1, p2]) : c = z ∨ c = tin ∨ c = tout ∨ c = p1 ∨ c = p2 := by simpa using h
theorem off5 {z tin tout p1 p2 c : Addr} (h : c ∉ [z, tin, tout, p1, p2]) : c ≠ z ∧ c ≠ tout ∧ c ≠ p1 ∧ c ≠ p2 := ⟨fun q => h (by simp [q]), fun q => h (by simp [q]), fun q => h (by simp [q]), fun q => h (by simp [q])⟩
theorem turn_zipN {P : Program} {w : World} {K : PySem.W.Frag} {nm : Str} {np : Pos} {a b z tin tout p1 p2 : Addr} (D : ZipApart z tin tout p1 p2 a b) :
    Turn P w K (.Name nm np) (RZ.ItzT K a b) [z, tin, tout, p1, p2] z (fun i h => (∃ f0 fl, Gave f0 ∧ ZAny h z tin tout f0 fl) ∧ IsPair h tin (.ref p1) (.ref p2) ∧ (∃ x y, IsPair h tout x y) ∧ h.IsTupleIter p1 a i ∧ h.IsTupleIter p2 b i) where
  mem := by simp
  obj := fun i h st c hc => by
    obtain ⟨⟨f0, fl, _, hz⟩, hin, ⟨x, y, hout⟩, ⟨o1, e1, _, d1⟩, ⟨o2, e2, _, d2⟩⟩ := st
    rcases five hc with q | q | q | q | q
    · exact q ▸ ⟨_, hz, fun v q => nomatch q⟩
    · exact q ▸ ⟨_, hin, fun v q => nomatch q⟩
    · exact q ▸ ⟨_, hout, fun v q => nomatch q⟩
    · exact q ▸ ⟨o1, e1, fun v q => by rw [d1] at q; cases q⟩
    · exact q ▸ ⟨o2, e2, fun v q => by rw [d2] at q; cases q⟩
  keep := fun i h h' st k => by
    obtain ⟨⟨f0, fl, hf, hz⟩, hin, ⟨x, y, hout⟩, h1, h2⟩ := st
    exact ⟨⟨f0, fl, hf, k z (by simp) _ hz⟩, k tin (by simp) _ hin, ⟨x, y, k tout (by simp) _ hout⟩, h1.at fun o q => k p1 (by simp) o q, h2.at fun o q => k p2 (by simp) o q⟩
  item := by
    intro X hP hw hK hc i pins s σ H E I hf st hg
    cases hP
    cases hw
    cases hK
    obtain ⟨⟨f0, fl, gv, hz⟩, hin, ⟨x0, y0, hout⟩, h1, h2⟩ := st
    obtain ⟨xs, ys, x, y, qx, qy, hx, hy⟩ := hg
    obtain ⟨its, rv, t1, _⟩ := I.tuple qx
    obtain ⟨its2, rv2, t2, _⟩ := I.tuple qy
    obtain ⟨u, hu, ru⟩ := rv.get hx
    obtain ⟨u2, hu2, ru2⟩ := rv2.get hy
    refine zipN_next D hz gv hin hout h1 h2 t1 t2 (x := u) (y := u2) (by simpa using hu) (by simpa using hu2) fun g e0 el a' b' q1 q2 q3 q4 q5 q6 q7 q8 => ?_
    refine ⟨_, rfl, ?_⟩
    show wpAny _ _ (pure ()) _ _ _
    refine wpAny_pure ?_
    have new : ObjOk X.prog X.w (upd H s.heap.objs.size (.tup [x, y])) g s.heap.objs.size (.tup [x, y]) :=
      ⟨by show 2 ≤ sizeLine; decide, [u, u2], .cons ru (.cons ru2 .nil), ⟨_, q6, rfl, _, rfl⟩⟩
    have I1 : Inv X pins σ (upd H s.heap.objs.size (.tup [x, y])) { s with heap := g } :=
      I.turnedNew (t' := s.toks) (ch := [z, tin, tout, p1, p2]) (fun c o hb q => let ⟨c1, c2, c3, c4⟩ := off5 hb; q8 c o c1 c2 c3 c4 q) hf (Nat.le_refl _) new
    refine ⟨.ref s.heap.objs.size, _, I1, rfl, ⟨_, x, y, rfl, I.hok.fresh (Nat.le_refl _), rfl, fun l hl => by rw [I.tuple_inj hl qx]; exact hx, fun l hl => by rw [I.tuple_inj hl qy]; exact hy⟩,
      ⟨⟨e0, el, q1, q2⟩, q8 _ _ D.TIz D.TITO D.TIi1 D.TIi2 hin, ⟨a', b', q3⟩, q4, q5⟩, fun c hcm => ?_⟩
    have lt : c < s.heap.objs.size := by
      rcases five hcm with q | q | q | q | q
      · exact q ▸ Heap.lt_size hz
      · exact q ▸ Heap.lt_size hin
      · exact q ▸ Heap.lt_size hout
      · obtain ⟨_, e1, _⟩ := h1; exact q ▸ Heap.lt_size e1
      · obtain ⟨_, e2, _⟩ := h2; exact q ▸ Heap.lt_size e2
    rw [upd_ne (Nat.ne_of_lt lt)]
    exact (hf c hcm).1
  done := by
    intro X hP hw hK hc i pins s σ H E I hf st hg
    cases hP
    cases hw
    cases hK
    obtain ⟨⟨f0, fl, gv, hz⟩, hin, ⟨x0, y0, hout⟩, h1, h2⟩ := st
    obtain ⟨xs, ys, qx, qy, stop⟩ := hg
    obtain ⟨its, rv, t1, _⟩ := I.tuple qx
    obtain ⟨its2, rv2, t2, _⟩ := I.tuple qy
    have n1 := rv.length
    have n2 := rv2.length
    have he : its.toArray[i]? = none ∨ its2.toArray[i]? = none := stop.imp (fun q => by simp; omega) fun q => by simp; omega
    exact zipN_none (I.ok.hd hc) D hz gv hin hout h1 h2 t1 t2 he fun g q8 => ⟨rfl, I.turnedL (t' := s.toks) (ch := [z, tin, tout, p1, p2]) (fun c o hb q => let ⟨c1, c2, c3, c4⟩ := off5 hb; q8 c o c1 c2 c3 c4 q) hf⟩
  self := fun A i s Q E st h => let ⟨_, _, _, hz⟩ := st.1; zipN_self hz h
def iZipN (K : PySem.W.Frag) (ta : TA) : TI := fun σ H R => ta σ H fun vs H1 => ∃ a b xs ys, vs = [.ref a, .ref b] ∧ SqT K H1 a xs ∧ SqT K H1 b ys ∧ R (RZ.ItzT K a b) H1
theorem pi_zipN {X : Cx} {e e2 : Expr} {ta : TA} {p pos np : Pos} {nm : Str} (g : Gl X "zip") (m : X.mg "zip" = none) (ha : PA X [e, e2] ta)
    (hs : starEach [e, e2] X.env = (false, eval e X.env) :: starEach [e2] X.env := by rfl) (hl : (backTo pos (starEach [e2] X.env)).any (·.1) = false := by rfl) :
    PI X (.Name nm np) (.Call (.Name "zip" p) [e, e2] [] pos) (iZipN X.K ta) := by
  refine ⟨fun pins s σ H R I h => Call_ (ld_blt I g m PyProof.Rows.boot_zip (PyProof.Rows.callWith_type1 (thn (ha.run pos pins s σ H _ I h) fun us s1 q => ?_) hs hl))⟩
  obtain ⟨vs, H1, I1, r1, a, b, xs, ys, rfl, qx, qy, k⟩ := q
  cases r1 with
  | cons r rr =>
    cases rr with
    | cons r' rr =>
      cases rr
      cases r
      cases r'
      obtain ⟨its, rv, t1, _⟩ := I1.tuple qx
      obtain ⟨its2, rv2, t2, _⟩ := I1.tuple qy
      obtain ⟨o1, e1, _⟩ := id t1
      obtain ⟨o2, e2, _⟩ := id t2
      refine RZ.call_zipT (show s1.heap.IsTuple a its.toArray from t1) (show s1.heap.IsTuple b its2.toArray from t2) fun g hz hin hout h1 h2 sz kp => wpAny_pyIter_zip hz ?_
      have I2 : Inv X pins σ H1 { s1 with heap := g } := I1.kept (t' := s1.toks) kp
      refine ⟨s1.heap.objs.size + 4, [s1.heap.objs.size + 4, s1.heap.objs.size + 2, s1.heap.objs.size + 3, s1.heap.objs.size, s1.heap.objs.size + 1], _, _, H1, rfl, I2,
        turn_zipN (PySem.W.ktu_apart s1.heap.objs.size a b (Heap.lt_size e1) (Heap.lt_size e2)), ⟨⟨_, _, .inl rfl, hz⟩, hin, ⟨_, _, hout⟩, h1, h2⟩, fun c hcm => ?_, k⟩
      have le : s1.heap.objs.size ≤ c := by
        rcases five hcm with q | q | q | q | q
        all_goals (rw [q]; first | exact Nat.le_add_right _ _ | exact Nat.le_refl _)
      exact I1.fpOk le (I1.hok.fresh le)
theorem walk_zipT {K : PySem.W.Frag} {a b : Addr} {xs ys : List V} {n : Nat} (e1 : xs.length = n) (e2 : ys.length = n) : Walk (RZ.ItzT K a b) n (fun H => SqT K H a xs ∧ SqT K H b ys) (YPair (fun i => xs[i]?) (fun i => ys[i]?)) := by
  refine ⟨fun i _ hi q => ⟨xs, ys, xs[i]'(by omega), ys[i]'(by omega), q.1, q.2, by simp, by simp⟩, fun _ q => ⟨xs, ys, q.1, q.2, by omega⟩, fun i H v H' _ q y => ?_⟩
  obtain ⟨T, x, z, h1, h2, h3, h4, h5⟩ := y
  exact ⟨T, x, z, h1, h2, h3, h4 xs q.1, h5 ys q.2⟩

/-! ### data as it lies in the heap, apart from the addresses in B -/
mutual
inductive Dt (B : Addr → Prop) (K : PySem.W.Frag) (H : Hp) : V → PyData → Prop
  | non : Dt B K H .non .none
  | bl (b : Bool) : Dt B K H (.bl b) (.bool b)
  | int (i : Int) : Dt B K H (.int i) (.int i)
  | str (x : Str) : Dt B K H (.str x) (.str x)
  | lst {a : Addr} {xs : List V} {ds : List PyData} (nb : ¬ B a) (ne : a ≠ sysModules) (hs : Rd H a (.lst xs)) (ha : DtAll B K H xs ds) : Dt B K H (.ref a) (.list ds)
  | tup {a : Addr} {xs : List V} {ds : List PyData} (nb : ¬ B a) (hs : Rd H a (.tup xs)) (ha : DtAll B K H xs ds) : Dt B K H (.ref a) (.tuple ds)
  | emp {a : Addr} (nb : ¬ B a) (h : H a = some (.dK [])) : Dt B K H (.ref a) (.dict [])
inductive DtAll (B : Addr → Prop) (K : PySem.W.Frag) (H : Hp) : List V → List PyData → Prop
  | nil : DtAll B K H [] []
  | cons {v : V} {vs : List V} {d : PyData} {ds : List PyData} (hd : Dt B K H v d) (tl : DtAll B K H vs ds) : DtAll B K H (v :: vs) (d :: ds)
end

/-- all that is tracked outside of B stays -/
def Keep (B : Addr → Prop) (H H' : Hp) : Prop := ∀ b o, ¬ B b → H b = some o → H' b = some o
theorem Keep.rfl' {B : Addr → Prop} {H : Hp} : Keep B H H := fun _ _ _ e => e
theorem Keep.trans {B : Addr → Prop} {H H1 H2 : Hp} (x : Keep B H H1) (y : Keep B H1 H2) : Keep B H H2 := fun b o n e => y b o n (x b o n e)
theorem Keep.same {B : Addr → Prop} {H H' : Hp} (x : Same H H') : Keep B H H' := fun b o _ e => x b o e
theorem keep_new {B : Addr → Prop} {H : Hp} {p : Addr} {o : HO} (n : H p = none) : Keep B H (upd H p o) := fun b u _ e => by
  rw [upd_ne (ne_of_none e n)]
  exact e
theorem same_new {H : Hp} {p : Addr} {o : HO} (n : H p = none) : Same H (upd H p o) := fun b u e => by
  rw [upd_ne (ne_of_none e n)]
  exact e
theorem Keep.rd {B : Addr → Prop} {H H' : Hp} {a : Addr} {o : HO} (k : Keep B H H') (nb : ¬ B a) (h : Rd H a o) : Rd H' a o := by
  rcases h with h | ⟨u, h⟩
  · exact .inl (k _ _ nb h)
  · exact .inr ⟨u, k _ _ nb h⟩
theorem Keep.seqL {B : Addr → Prop} {K : PySem.W.Frag} {H H' : Hp} {a : Addr} {xs : List V} (k : Keep B H H') (nb : ¬ B a) (h : SqL K H a xs) : SqL K H' a xs := by
  rcases h with (h | ⟨o, h⟩) | h
  · exact .inl (.inl (k _ _ nb h))
  · exact .inl (.inr ⟨o, k _ _ nb h⟩)
  · exact .inr h
theorem Keep.seqT {B : Addr → Prop} {K : PySem.W.Frag} {H H' : Hp} {a : Addr} {xs : List V} (k : Keep B H H') (nb : ¬ B a) (h : SqT K H a xs) : SqT K H' a xs := by
  rcases h with (h | ⟨o, h⟩) | h
  · exact .inl (.inl (k _ _ nb h))
  · exact .inl (.inr ⟨o, k _ _ nb h⟩)
  · exact .inr h
mutual
theorem Dt.keep {B : Addr → Prop} {K : PySem.W.Frag} {H H' : Hp} (k : Keep B H H') : ∀ (d : PyData) (v : V), Dt B K H v d → Dt B K H' v d
  | .none, _, h => by cases h; exact .non
  | .bool _, _, h => by cases h; exact .bl _
  | .int _, _, h => by cases h; exact .int _
  | .str _, _, h => by cases h; exact .str _
  | .list ds, _, h => by
    cases h with
    | lst nb ne hs ha => exact .lst nb ne (k.rd nb hs) (DtAll.keep k ds _ ha)
  | .tuple ds, _, h => by
    cases h with
    | tup nb hs ha => exact .tup nb (k.rd nb hs) (DtAll.keep k ds _ ha)
  | .dict _, _, h => by
    cases h with
    | emp nb e => exact .emp nb (k _ _ nb e)
theorem DtAll.keep {B : Addr → Prop} {K : PySem.W.Frag} {H H' : Hp} (k : Keep B H H') : ∀ (ds : List PyData) (vs : List V), DtAll B K H vs ds → DtAll B K H' vs ds
  | [], _, h => by cases h; exact .nil
  | d :: ds, _, h => by
    cases h with
    | cons h1 h2 => exact .cons (Dt.keep k d _ h1) (DtAll.keep k ds _ h2)
end
theorem DtAll.len {B : Addr → Prop} {K : PySem.W.Frag} {H : Hp} : ∀ {vs : List V} {ds : List PyData}, DtAll B K H vs ds → vs.length = ds.length
  | _, _, .nil => rfl
  | _, _, .cons _ t => congrArg (· + 1) (DtAll.len t)
theorem DtAll.append {B : Addr → Prop} {K : PySem.W.Frag} {H : Hp} : ∀ {vs ws : List V} {ds es : List PyData}, DtAll B K H vs ds → DtAll B K H ws es → DtAll B K H (vs ++ ws) (ds ++ es)
  | _, _, _, _, .nil, q => q
  | _, _, _, _, .cons r t, q => .cons r (DtAll.append t q)
theorem DtAll.take {B : Addr → Prop} {K : PySem.W.Frag} {H : Hp} : ∀ {vs : List V} {ds : List PyData} (n : Nat), DtAll B K H vs ds → DtAll B K H (vs.take n) (ds.take n)
  | _, _, 0, _ => .nil
  | _, _, _ + 1, .nil => .nil
  | _, _, n + 1, .cons r t => .cons r (DtAll.take n t)
theorem DtAll.drop {B : Addr → Prop} {K : PySem.W.Frag} {H : Hp} : ∀ {vs : List V} {ds : List PyData} (n : Nat), DtAll B K H vs ds → DtAll B K H (vs.drop n) (ds.drop n)
  | _, _, 0, h => h
  | _, _, _ + 1, .nil => .nil
  | _, _, n + 1, .cons _ t => DtAll.drop n t
theorem DtAll.get {B : Addr → Prop} {K : PySem.W.Frag} {H : Hp} : ∀ {vs : List V} {ds : List PyData} {i : Nat} {d : PyData}, DtAll B K H vs ds → ds[i]? = some d → ∃ v, vs[i]? = some v ∧ Dt B K H v d
  | _, _, _, _, .nil, e => by simp at e
  | _, _, 0, _, .cons r _, e => by
    simp at e
    subst e
    exact ⟨_, rfl, r⟩
  | _, _, i + 1, _, .cons _ t, e => by
    obtain ⟨v, h1, h2⟩ := DtAll.get (i := i) t (by simpa using e)
    exact ⟨v, by simpa using h1, h2⟩
theorem DtAll.getV {B : Addr → Prop} {K : PySem.W.Frag} {H : Hp} : ∀ {vs : List V} {ds : List PyData} {i : Nat} {v : V}, DtAll B K H vs ds → vs[i]? = some v → ∃ d, ds[i]? = some d ∧ Dt B K H v d
  | _, _, _, _, .nil, e => by simp at e
  | _, _, 0, _, .cons r _, e => by
    simp at e
    subst e
    exact ⟨_, rfl, r⟩
  | _, _, i + 1, _, .cons _ t, e => by
    obtain ⟨v, h1, h2⟩ := DtAll.getV (i := i) t (by simpa using e)
    exact ⟨v, by simpa using h1, h2⟩
theorem DtAll.rev {B : Addr → Prop} {K : PySem.W.Frag} {H : Hp} : ∀ {vs : List V} {ds : List PyData}, DtAll B K H vs ds → DtAll B K H vs.reverse ds.reverse
  | _, _, .nil => .nil
  | _, _, .cons r t => by
    rw [List.reverse_cons, List.reverse_cons]
    exact (DtAll.rev t).append (.cons r .nil)
theorem DtAll.rep {B : Addr → Prop} {K : PySem.W.Frag} {H : Hp} {v : V} {d : PyData} (h : Dt B K H v d) : ∀ n : Nat, DtAll B K H (List.replicate n v) (List.replicate n d)
  | 0 => .nil
  | n + 1 => .cons h (DtAll.rep h n)

section
variable {X : Cx} {pins : List (Addr × Obj)} {σ : L2.St} {H : Hp} {s : Shared}
theorem no_entries {knd : KeyKind X.prog X.w Key} {es : List DictEntry} (h : PySem.Pairs knd es ([] : List (Key × Value))) : es = [] := by
  cases h
  rfl
mutual
theorem Dt.reads {B : Addr → Prop} (I : Inv X pins σ H s) : ∀ (d : PyData) (v : V) (u : Value), Dt B X.K H v d → RelV v u → ∃ as, Reads s.heap u d as ∧ sysModules ∉ as
  | .none, _, _, h, r => by
    cases h
    cases r
    exact ⟨[], .none, List.not_mem_nil⟩
  | .bool b, _, _, h, r => by
    cases h
    cases r
    exact ⟨[], .bool b, List.not_mem_nil⟩
  | .int i, _, _, h, r => by
    cases h
    obtain ⟨t, rfl⟩ := r
    exact ⟨[], .int i t, List.not_mem_nil⟩
  | .str x, _, _, h, r => by
    cases h
    obtain ⟨t, rfl⟩ := r
    exact ⟨[], .str x t, List.not_mem_nil⟩
  | .list ds, _, _, h, r => by
    cases h with
    | lst nb ne hs ha =>
      cases r
      obtain ⟨its, rv, ⟨ob, n, ho, hc, _, hd⟩, _⟩ := I.list (.inl hs)
      obtain ⟨as, hr, hn⟩ := DtAll.reads I ds _ its ha rv
      refine ⟨_, .list ho hc hd hr, fun z => ?_⟩
      rcases List.mem_cons.mp z with z | z
      · exact ne z.symm
      · exact hn z
  | .tuple ds, _, _, h, r => by
    cases h with
    | tup nb hs ha =>
      cases r
      obtain ⟨its, rv, ⟨ob, ho, hc, n, hd⟩, _⟩ := I.tuple (.inl hs)
      obtain ⟨as, hr, hn⟩ := DtAll.reads I ds _ its ha rv
      exact ⟨_, .tuple ho hc hd hr, hn⟩
  | .dict _, _, _, h, r => by
    cases h with
    | emp nb e =>
      cases r
      obtain ⟨_, hm, vs, rel, ob, es, ep, ho, hx, hd, _, hp, _⟩ := dk_of I.hok e
      cases rel
      have he := no_entries hp
      refine ⟨_, .dict (kvs := []) ho hx.1 hd (by rw [he]; exact .nil) (by rw [he]; exact .nil), fun z => ?_⟩
      rcases List.mem_cons.mp z with z | z
      · rw [← z] at hm
        simp at hm
      · simp at z
theorem DtAll.reads {B : Addr → Prop} (I : Inv X pins σ H s) : ∀ (ds : List PyData) (vs : List V) (us : List Value), DtAll B X.K H vs ds → Vals vs us → ∃ as, ReadsAll s.heap us ds as ∧ sysModules ∉ as
  | [], _, _, h, r => by
    cases h
    cases r
    exact ⟨[], .nil, List.not_mem_nil⟩
  | d :: ds, _, _, h, r => by
    cases h with
    | cons h1 h2 =>
      cases r with
      | cons r1 r2 =>
        obtain ⟨as, q1, n1⟩ := Dt.reads I d _ _ h1 r1
        obtain ⟨bs, q2, n2⟩ := DtAll.reads I ds _ _ h2 r2
        refine ⟨_, .cons q1 q2, fun z => ?_⟩
        rcases List.mem_append.mp z with z | z
        · exact n1 z
        · exact n2 z
end
end

/-! ### repr -/
section
variable {X : Cx}
def rRepr (K : PySem.W.Frag) : List V → Hp → VK → Prop := fun xs H Q => ∃ (x : V) (d : PyData) (B : Addr → Prop), xs = [x] ∧ Dt B K H x d ∧ d.showable = true ∧ d.depth ≤ 60 ∧ d.shown.length ≤ sizeLine ∧ Q (.str d.shown) H
theorem call_reprD (hG : X.A.guards = some []) (hu : X.A.units + 64 < cLine) : CallR X (.builtin "repr") (rRepr X.K) := by
  intro pins s σ H xs us Q I r h
  obtain ⟨x, d, B, rfl, hd, hs, hdp, hz, q⟩ := h
  obtain ⟨u, rfl, rx⟩ := vals1 r
  obtain ⟨as, rd, hn⟩ := Dt.reads I d x u hd rx
  cases hd with
  | non =>
    cases rx
    exact PySem.P.repr_of_none ⟨.str _, H, I.tok _, ⟨_, rfl⟩, q⟩
  | bl b =>
    cases rx
    exact PySem.P.repr_of_bool ⟨.str _, H, I.tok _, ⟨_, rfl⟩, q⟩
  | int i =>
    obtain ⟨t, rfl⟩ := rx
    exact PySem.P.repr_of_int (by simpa [PyData.showable] using hs) ⟨.str _, H, I.tok _, ⟨_, rfl⟩, q⟩
  | str y =>
    obtain ⟨t, rfl⟩ := rx
    exact PySem.P.repr_of_str ⟨.str _, H, I.tok _, ⟨_, rfl⟩, q⟩ (by simpa only [PyData.shown] using hz)
  | lst nb ne hs' ha =>
    cases rx
    exact repr_of_reads' rd hs (fun _ => hn) hG (by omega) (fun _ _ e => e) (fun h' u tk hk => ⟨.str _, H, I.kept hk, ⟨_, rfl⟩, q⟩) hz
  | tup nb hs' ha =>
    cases rx
    exact repr_of_reads' rd hs (fun _ => hn) hG (by omega) (fun _ _ e => e) (fun h' u tk hk => ⟨.str _, H, I.kept hk, ⟨_, rfl⟩, q⟩) hz
  | emp nb e =>
    cases rx
    exact repr_of_reads' rd hs (fun _ => hn) hG (by omega) (fun _ _ e => e) (fun h' u tk hk => ⟨.str _, H, I.kept hk, ⟨_, rfl⟩, q⟩) hz
end

/-! ### a def called where nothing is being shown (no repr under way) -/
section
variable {P : Program} {w : World} {K : PySem.W.Frag} {mg : Str → Option Value} {base : Heap}
def GRun (P : Program) (w : World) (K : PySem.W.Frag) (mg : Str → Option Value) (base : Heap) (k : Nat) (f : Addr) (fd : FuncData) (ps : List Str) (sp : Sp) : Prop :=
  ∀ (A : Around) (outer : List Env) (s : Shared) (H : Hp) (us : List Value) (vs : List V) (Q : VK),
    A.guards = some [] → Room k A → Env0 P w K mg base A outer s H → BindsTo s fd ⟨us, []⟩ (ps.zip us) → Vals vs us → vs.length = ps.length → sp vs H Q E0 →
    codeAny (model P w) A (.call (.ref f) ⟨us, []⟩) (CR CX0 outer P w H s Q E0) s
theorem grun {x qual : Str} {st : Stmt} {f : Addr} {fd : FuncData} {N ps : List Str} {k : Nat} {sp : Sp} (F : Fun K x qual st f fd) (S : FnScope N ps (defScope st))
    (body : ∀ (cdv : Value) (A : Around) (outer : List Env) (s : Shared) (H : Hp) (vs : List V) (Q : VK), A.guards = some [] → Room k (A.deeper (envOfC qual (defScope st) s.heap.objs.size f cdv)) → sp vs H Q E0 →
      ∃ t, PSs (cxOf CX0 P w K mg base N qual (defScope st) f cdv A outer s H E0).nox (defBody st) t ∧ t { nx := fun _ H' => Q .non H', rt := Q } (start N vs) H) :
    GRun P w K mg base (k + 1) f fd ps sp := by
  obtain ⟨oc, od, kV, doc, pm, an, cdv, ct, osl, rfl, lk, hcd⟩ := F.ex
  intro A outer s H us vs Q hG hr e0 hb r hl hsp
  have inK : K.In s.heap := e0.mod.kin.keeps (fun b o q => (e0.bs b o q).1)
  have noL : s.heap.NoLimit := e0.mod.nolimit.keeps (fun b o q => (e0.bs b o q).1)
  have kinds : ∀ y ∈ ps.zip us, (defScope st).names.lookup y.1 = some .local ∨ ((defScope st).names.lookup y.1 = some .cell ∧ ((cellsFrom (s.heap.objs.size + 1) (defScope st).names []).lookup y.1).isSome = true) := by
    intro y hy
    obtain ⟨n, v⟩ := y
    cases S.par n (List.of_mem_zip hy).1 with
    | inl q => exact Or.inl q
    | inr q => exact Or.inr ⟨q, PySem.W.cellsFrom_some _ _ _ (Or.inl q)⟩
  refine codeAny_call_function hr.depth (inK _ _ lk) rfl S.co S.gen rfl (PySem.W.codeRec_of inK hcd) (hb _ _ _ _ ?_)
  refine wpAny_newFunctionEnv_cells S.kind kinds (fun env he s1 x => ?_)
  cases he
  obtain ⟨t, ht, hq⟩ := body cdv A outer s H vs Q hG (hr.deeper _) hsp
  have J := inv_start (CX := CX0) (mg := mg) (E := E0) S hr.hd e0 hl r x
  refine ⟨noL.keeps x.toInCall.keep, codeAny_func (wpAny_mono (ht.nox.run [] s1 (start N vs) H _ J hq) ?_ (fun e s' z => z))⟩
  intro fl s' z
  cases fl with
  | next =>
    obtain ⟨_, H', J', q⟩ := z
    exact ⟨.non, H', J'.os, J'.bare, J'.base, J'.hok, rfl, q⟩
  | ret u =>
    obtain ⟨v, _, H', J', rv, q⟩ := z
    exact ⟨v, H', J'.os, J'.bare, J'.base, J'.hok, rv, q⟩
  | brk => exact (z.choose_spec.choose_spec.2).elim
  | cont => exact (z.choose_spec.choose_spec.2).elim

/-- called from outside with the object at a, the def at fa answers True and leaves what stood -/
abbrev TrueAt (P : Program) (w : World) (fa a : Addr) (t : Shared) : Prop :=
  codeAny (model P w) callerA (.call (.ref fa) ⟨[.ref a], []⟩)
    (fun r u => r = .ok (.ret (.bool true)) ∧
      OldK t.heap u.heap ∧ u.os = t.os ∧ AllBare u.gens) t
/-- nothing but one list of ints, known, is tracked -/
theorem gcall {k : Nat} {fa a : Addr} {fd : FuncData} {x : Str} {sp : Sp} {s₁ : Shared} {mb : Str → Option Value} {H : Hp}
    (inH : K.In s₁.heap) (atG : s₁.heap.Ns mainGlobals mg) (hb : s₁.heap.Ns builtinsNs mb) (bB : ∀ x : Str, x ≠ "__name__" → mb x = bootBuiltins x) (lim : s₁.heap.NoLimit) (hg : s₁.gens = #[])
    (hr : Room k callerA) (R : ∀ base : Heap, K.In base → base.Ns mainGlobals mg → GRun P w K mg base k fa fd [x] sp) (bind : ∀ (s : Shared) (u : Value), BindsTo s fd ⟨[u], []⟩ [(x, u)])
    (hok : HOk P w H s₁.heap) (only : ∀ b o, H b = some o → b = a ∧ (∃ ob xs, o = .frz ob (.lst xs) ∧ ∀ es ep, ob.data ≠ .dict es ep) ∧ K.lookup a = none)
    (hsp : sp [.ref a] H (fun v _ => v = .bl true) E0) :
    TrueAt P w fa a s₁ := by
  have plain : ∀ {b : Addr} {o : Obj} {es : Array DictEntry} {ep : Nat}, s₁.heap.get? b = some o → o.data = .dict es ep → H b = none := by
    intro b o es ep q d
    cases z : H b with
    | none => rfl
    | some u =>
      obtain ⟨_, ⟨ob, xs, rfl, nd⟩, _⟩ := only b u z
      obtain ⟨q2, _⟩ := hok b _ z
      rw [q] at q2
      cases q2
      exact absurd d (nd es ep)
  have nsB : ∀ {b : Addr} {m : Str → Option Value}, s₁.heap.Ns b m → (hidT s₁.heap H).Ns b m := by
    rintro b m ⟨o, es, ep, q, d, r⟩
    exact ⟨o, es, ep, hidT_get q (plain q d), d, r⟩
  have kB : K.In (hidT s₁.heap H) := by
    intro b o q
    refine hidT_get (inH b o q) ?_
    cases z : H b with
    | none => rfl
    | some u =>
      obtain ⟨e, _, n⟩ := only b u z
      rw [e, n] at q
      cases q
  have md : L2.Mod K mg (hidT s₁.heap H) := by
    obtain ⟨mc, l1, l2⟩ := lim
    exact ⟨kB, nsB atG, ⟨mb, nsB hb, bB⟩, ⟨mc, nsB l1, l2⟩⟩
  have env : Env0 P w K mg (hidT s₁.heap H) callerA [] s₁ H :=
    { frames := rfl, mod := md, bs := fun b o q => of_hidT q, bsz := Nat.le_of_eq (hidT_size _ _), funs := trivial, frf := fun b z => absurd z List.not_mem_nil, hok := hok, bare := .of_eq hg }
  have run := R _ kB (nsB atG) callerA [] s₁ H [.ref a] [.ref a] _ rfl hr env (bind s₁ (.ref a)) (.cons rfl .nil) rfl hsp
  refine codeAny_mono run (fun r s' z => ?_)
  match r, z with
  | .error _, z => exact z.elim
  | .ok .next, z => exact z.elim
  | .ok .brk, z => exact z.elim
  | .ok .cont, z => exact z.elim
  | .ok (.ret u), ⟨v, H', os, bare, un, hok', rv, q⟩ =>
    have q : v = .bl true := q
    cases q
    have rv : u = Value.bool true := rv
    cases rv
    refine ⟨rfl, .of_keep (fun b o e => ?_), os, bare⟩
    cases z : H b with
    | none => exact un.keep b o e z List.not_mem_nil List.not_mem_nil
    | some u =>
      obtain ⟨_, ⟨ob, xs, rfl, _⟩, _⟩ := only b u z
      have g1 := (hok b _ z).1
      have g2 := (hok' b _ (un.frzs b ob _ z)).1
      rw [e] at g1
      cases g1
      exact g2
/-- the law's call, the script tracked or written -/
theorem glaw {k : Nat} {fa a : Addr} {fd : FuncData} {x : Str} {sp : Sp} {s₁ : Shared} {mb : Str → Option Value} {vs : List Value} {ns : List Int}
    (inH : K.In s₁.heap) (atG : s₁.heap.Ns mainGlobals mg) (hb : s₁.heap.Ns builtinsNs mb) (bB : ∀ x : Str, x ≠ "__name__" → mb x = bootBuiltins x) (lim : s₁.heap.NoLimit) (hg : s₁.gens = #[])
    (ha : s₁.heap.get? a = some { cls := .type "list", data := .seq vs.toArray }) (hi : IntsAre vs ns) (hl : ns.length ≤ sizeLine)
    (hr : Room k callerA) (R : ∀ base : Heap, K.In base → base.Ns mainGlobals mg → GRun P w K mg base k fa fd [x] sp) (bind : ∀ (s : Shared) (u : Value), BindsTo s fd ⟨[u], []⟩ [(x, u)])
    (hsp : ∀ H : Hp, SqL K H a (ns.map V.int) → sp [.ref a] H (fun v _ => v = .bl true) E0) :
    TrueAt P w fa a s₁ := by
  have rv := vals_ints hi
  cases q : K.lookup a with
  | some o =>
    have e := (inH a o q).symm.trans ha
    cases e
    refine gcall (H := fun _ => none) inH atG hb bB lim hg hr R bind (fun b u z => by cases z) (fun b u z => by cases z) (hsp _ (.inr ⟨_, vs.toArray, _, q, rfl, rfl, rfl, ?_, by simpa using rv⟩))
    rw [List.size_toArray, hi.length]
    exact hl
  | none =>
    have tr : ∀ b u, upd (fun _ => none) a (.frz { cls := .type "list", data := .seq vs.toArray } (.lst (ns.map V.int))) b = some u → b = a ∧ u = .frz { cls := .type "list", data := .seq vs.toArray } (.lst (ns.map V.int)) := by
      intro b u z
      by_cases h : b = a
      · rw [h, upd_same] at z
        exact ⟨h, (Option.some.inj z).symm⟩
      · rw [upd_ne h] at z
        cases z
    refine gcall (H := upd (fun _ => none) a (.frz { cls := .type "list", data := .seq vs.toArray } (.lst (ns.map V.int)))) inH atG hb bB lim hg hr R bind (fun b u z => ?_) (fun b u z => ?_) (hsp _ (.inl (.inr ⟨_, upd_same⟩)))
    · obtain ⟨rfl, rfl⟩ := tr b u z
      exact ⟨ha, by rw [List.length_map]; exact hl, vs, _, rv, ha⟩
    · obtain ⟨rfl, rfl⟩ := tr b u z
      exact ⟨rfl, ⟨_, _, rfl, fun es ep d => by cases d⟩, q⟩
end
/-- the end of the row's proof -/
theorem gwalk {l : PySem.W.OpenLaw} {n k : Nat} {q : Program} {loose : List Str} {XP : (Str → Option Value) → Heap → Prop} {YP : World → Heap → Prop} {d : DefRec} {K : Params → PySem.W.Frag} {sp : World → Sp} {x : Str}
    (hn : l.most = some n) (hn2 : n ≤ sizeLine) (hdf : d.params.defaults = []) (hr : Room k callerA) (hY : ∀ (w : World) (h : Heap), YP w h → (K w.params).In h)
    (F : ∀ (w : World) (mg : Str → Option Value) (fa : Addr) (h : Heap), (K w.params).In h → h.Ns mainGlobals mg → mg d.name = some (.ref fa) →
      ∃ fd : FuncData, (∀ (s : Shared) (u : Value), BindsTo s fd ⟨[u], []⟩ [(x, u)]) ∧ ∀ base : Heap, (K w.params).In base → base.Ns mainGlobals mg → GRun l.prog w (K w.params) mg base k fa fd [x] (sp w))
    (hsp : ∀ (w : World) (H : Hp) (a : Addr) (ns : List Int), ns.length ≤ n → SqL (K w.params) H a (ns.map V.int) → sp w [.ref a] H (fun v _ => v = .bl true) E0) :
    PySem.W.WalkO q loose XP YP l.row.toRowW d [] (fun f vs => PySem.call f vs) := by
  refine Att.attach_call hn hdf (fun w s₀ s₁ mg mb fa o pm cd doc a vs ns G Y _ _ _ hmg hobj hints hlen hg => ?_)
  have inK := hY w _ Y
  obtain ⟨fd, bind, R⟩ := F w mg fa _ inK G.T.g hmg
  exact glaw inK G.T.g G.T.b G.T.builtins G.T.nolimit hg hobj hints (Nat.le_trans hlen hn2) hr R bind (fun H hS => hsp w H a ns hlen hS)
theorem adjust_rev (n : Nat) : Builtin.Slice.sliceAdjust none none (-1) (n : Int) = ((n : Int) - 1, -1) := by
  unfold Builtin.Slice.sliceAdjust
  rfl
theorem places_rev (n : Nat) : Builtin.Slice.slicePlaces ((n : Int) - 1) (-1) (-1) = n := by
  unfold Builtin.Slice.slicePlaces
  rw [if_neg (by decide)]
  by_cases h : (n : Int) - 1 > -1
  · rw [if_pos h, show (- -1 : Int) = 1 by decide, Int.ediv_one]
    omega
  · rw [if_neg h]
    omega
theorem pick_rev (xs : List Value) : ((List.range xs.length).filterMap fun (k : Nat) => xs.toArray[((xs.length : Int) - 1 + (k : Int) * -1).toNat]?) = xs.reverse := by
  have e1 : (fun (k : Nat) => xs.toArray[((xs.length : Int) - 1 + (k : Int) * -1).toNat]?) = (fun j => xs.toArray[j]?) ∘ fun k => xs.length - 1 - k := by
    funext k
    show xs.toArray[((xs.length : Int) - 1 + (k : Int) * -1).toNat]? = xs.toArray[xs.length - 1 - k]?
    congr 1
    omega
  rw [e1, ← List.filterMap_map, PySem.W.krv_range, List.filterMap_reverse]
  have e2 := PySem.W.krv_all xs.toArray
  rw [List.size_toArray] at e2
  rw [e2]
section
variable {prog : Program} {w : World} {A : Around} {E : Value → Shared → Prop} {s : Shared}
theorem appliedR {sl : Addr} {vs : Value} {n : Nat} {Q : Int × Int × Nat → Shared → Prop} (hs : s.heap.IsSliceOf sl .none .none vs) (ps : IsPart vs (some (-1))) (h : Q ((n : Int) - 1, -1, n) s) :
    wpAny (model prog w) A (Builtin.Slice.sliceApplied (.ref sl) (pure (n : Int))) Q E s := by
  obtain ⟨os, hos, hcs, hds⟩ := hs
  unfold Builtin.Slice.sliceApplied Builtin.Slice.sliceFields
  have f3 : wpAny (model prog w) A (Builtin.Slice.slicePartIndex vs) (fun o s' => o = some (-1) ∧ s' = s) E s := HT.slicePart_ ps ⟨rfl, rfl⟩
  refine wpAny_bind (wpAny_bind (wpAny_field hos hds (x := .none) rfl (wpAny_bind (wpAny_field hos hds (x := .none) rfl (wpAny_bind (wpAny_field hos hds (x := vs) rfl (wpAny_pure ?_)))))))
  refine wpAny_bind (wpAny_mono f3 (fun o s' z => ?_) fun _ _ z => z)
  obtain ⟨rfl, rfl⟩ := z
  show wpAny _ _ (if ((-1 : Int) == 0) = true then _ else _) _ _ _
  rw [if_neg (by decide)]
  have h : Q ((n : Int) - 1, -1, Builtin.Slice.slicePlaces ((n : Int) - 1) (-1) (-1)) s' := by
    rw [places_rev]
    exact h
  exact wpAny_bind (slicePart_none (wpAny_bind (slicePart_none (wpAny_bind (wpAny_pure (wpAny_pure h))))))
theorem revR {t sl : Addr} {xs : List Value} {vs : Value} {Q : Value → Shared → Prop} (ht : IsTup s.heap t xs.toArray) (hz : xs.length ≤ sizeLine) (hs : s.heap.IsSliceOf sl .none .none vs) (ps : IsPart vs (some (-1)))
    (h : Q (.ref s.heap.objs.size) { s with heap := s.heap.push { cls := .type "tuple", data := .seq xs.reverse.toArray } }) : wpAny (model prog w) A (getItem (.ref t) (.ref sl)) Q E s := by
  have hTs : s.TypeIs (.ref sl) "slice" := by
    obtain ⟨os, hos, hcs, _⟩ := id hs
    exact ⟨os, hos, hcs⟩
  unfold getItem
  try with_reducible refine wpAny_holding ?_
  first | refine wpAny_bind (wpAny_pure ?_) | skip
  refine wpAny_bind (wpAny_sequenceKey ht.typeIs (by decide) (wpAny_bind (wpAny_callSpecial?_slot (name := Str.ofString "__getitem__") ht.typeIs PyProof.Rows.slot_tuple_getitem
    (wpAny_call_entry PyProof.Rows.slot_tuple_getitem ht.typeIs entry_tuple_getitem ?_ (args_tuple_getitem _ _)))))
  refine wpAny_bind (m := Builtin.Tuple.tupleItemsOf (.ref t)) (tupleItemsOf_ ht (wpAny_bind (wpAny_typeOf hTs ?_)))
  rw [if_pos (by decide)]
  have es : xs.toArray.size = xs.length := List.size_toArray
  rw [es]
  refine wpAny_bind (appliedR hs ps ?_)
  have hno : ¬ (((xs.length : Int) - 1 == 0 && (-1 : Int) == 1 && xs.length == xs.length) = true) := by
    rw [show ((-1 : Int) == 1) = false by decide, Bool.and_false, Bool.false_and]
    exact Bool.false_ne_true
  show wpAny _ _ (if ((xs.length : Int) - 1 == 0 && (-1 : Int) == 1 && xs.length == xs.length) = true then _ else _) _ _ s
  rw [if_neg hno, pick_rev]
  have okR : sizeOk (.seq xs.reverse.toArray) := by
    show xs.reverse.toArray.size ≤ sizeLine
    rw [List.size_toArray, List.length_reverse]
    exact hz
  first
    | exact wpAny_bind (m := Builtin.Tuple.tupleExact _) (wpAny_newObj_type (wpAny_pure ⟨_, rfl, wpAny_pure h⟩) okR)
    | exact wpAny_bind (wpAny_bind (m := Builtin.Tuple.tupleExact _) (wpAny_newObj_type (wpAny_pure (wpAny_pure ⟨_, rfl, wpAny_pure h⟩)) okR))
    | exact wpAny_bind (wpAny_bind (m := Builtin.Tuple.tupleExact _) (wpAny_newObj_type (wpAny_pure ⟨_, rfl, wpAny_pure h⟩) okR))
end
section
variable {X : Cx}
/-- t[::-1] of any tuple: a new one -/
def tRevR (te : TE) : TE := fun σ H Q => te σ H fun x H1 => ∃ a xs, x = .ref a ∧ Rd H1 a (.tup xs) ∧ ∀ p, H1 p = none → Q (.ref p) (upd H1 p (.tup xs.reverse))
theorem pe_revR {e : Expr} {te : TE} {k : Nat} {p1 p2 p3 pos : Pos} (he : PE X e te) :
    PE X (.Subscript e (.Slice none none (some (.UnaryOp .USub (.Constant (.int 1) k p1) p2)) p3) pos) (tRevR te) := by
  have part : PO X (some (.UnaryOp .USub (.Constant (.int 1) k p1) p2)) (tPart (tUn (rU fun i => .int (-i)) (tC (.int 1)))) := po_some (pe_un un_neg pe_int)
  refine ⟨fun pins s σ H Q I h => Subscript_ (thn (he.run pins s σ H _ I h) ?_)⟩
  rintro v s1 ⟨x, H1, I1, r1, a, xs, rfl, hx, q⟩
  cases r1
  refine wpAny_Slice (thn (po_none.run pins s1 σ H1 (fun o G => o = none ∧ G = H1) I1 ⟨rfl, rfl⟩) ?_)
  rintro vl s2 ⟨_, G2, J2, pl, rfl, rfl⟩
  refine thn (po_none.run pins s2 σ G2 (fun o G => o = none ∧ G = G2) J2 ⟨rfl, rfl⟩) ?_
  rintro vu s3 ⟨_, G3, J3, pu, rfl, rfl⟩
  refine thn (part.run pins s3 σ G3 (fun o G => o = some (-1) ∧ G = G3) J3 ⟨1, rfl, -1, rfl, rfl, rfl⟩) ?_
  rintro vs s4 ⟨_, G4, J4, ps, rfl, rfl⟩
  cases pl
  cases pu
  have J5 : Inv X pins σ G4 { s4 with heap := s4.heap.push { cls := .type "slice", data := .fields #[.none, .none, vs] } } := J4.kept (t' := s4.toks) fun b ob z => Heap.get?_push_of_some _ z
  obtain ⟨its, r, ht, hz⟩ := J5.tuple (.inl hx)
  have hl := r.length
  refine tail_any (ops := [.ref a, .ref s4.heap.objs.size]) ht.typeIs (PyProof.Rows.slot_tuple_getitem.lookup) ?_ (by with_unfolding_all rfl)
  refine revR ht (by omega) (Heap.IsSliceOf.new _ .none .none vs) ps ?_
  exact ⟨.ref _, _, J5.laid (t' := s4.toks) (o := .tup xs.reverse) (fun b ob z => Heap.get?_push_of_some _ z) (Nat.le_refl _) ⟨by rw [List.length_reverse]; exact hz, _, r.reverse, IsTup.new _ _⟩, rfl, q _ (J5.hok.fresh (Nat.le_refl _))⟩
end
/-! ### a list, a tuple beside an empty one -/
section
variable {X : Cx}
def rNilL (K : PySem.W.Frag) (g : Bool → Bool) : R2 := fun x y H Q => ∃ (l b : Addr) (xs : List V), x = .ref l ∧ y = .ref b ∧ SqL K H l xs ∧ SqL K H b [] ∧ Q (.bl (g (decide (xs = [])))) H
def rNilT (K : PySem.W.Frag) : R2 := fun x y H Q => ∃ (l b : Addr) (xs : List V), x = .ref l ∧ y = .ref b ∧ SqT K H l xs ∧ SqT K H b [] ∧ Q (.bl (decide (xs = []))) H
theorem op_eqNilL (hu : X.A.units < cLine) : OpR X (compareOp .Eq) (rNilL X.K id) := by
  intro pins s σ H x y v u Q I rx ry h
  obtain ⟨l, b, xs, rfl, rfl, hl, hb, q⟩ := h
  cases rx
  cases ry
  obtain ⟨its, rv, pl, _⟩ := I.list hl
  obtain ⟨its2, rv2, pl2, _⟩ := I.list hb
  cases rv2
  have hn := rv.length
  cases xs with
  | nil =>
    cases rv
    exact SeqAt.eq_listAt (e := fun _ => true) pl.isList pl2.isList rfl hu (fun j h1 _ => absurd h1 (Nat.not_lt_zero _)) ⟨.bl _, H, I, rfl, q⟩
  | cons z zs =>
    refine SeqAt.eq_list_lengthsAt pl.isList pl2.isList ?_ hu ⟨.bl _, H, I, rfl, q⟩
    rw [List.size_toArray, ← hn]
    rfl
theorem op_neNilL (hu : X.A.units < cLine) : OpR X (compareOp .NotEq) (rNilL X.K not) := by
  intro pins s σ H x y v u Q I rx ry h
  obtain ⟨l, b, xs, rfl, rfl, hl, hb, q⟩ := h
  cases rx
  cases ry
  obtain ⟨its, rv, pl, _⟩ := I.list hl
  obtain ⟨its2, rv2, pl2, _⟩ := I.list hb
  cases rv2
  have hn := rv.length
  cases xs with
  | nil =>
    cases rv
    exact SeqAt.RcNeAt.lists (e := fun _ => true) pl.isList pl2.isList rfl hu (fun j h1 _ => absurd h1 (Nat.not_lt_zero _)) _ _ _ _ ⟨.bl _, H, I, rfl, q⟩
  | cons z zs =>
    refine SeqAt.RcNeAt.lists_lengths pl.isList pl2.isList ?_ hu _ _ _ _ ⟨.bl _, H, I, rfl, q⟩
    rw [List.size_toArray, ← hn]
    rfl
theorem op_eqNilT (hu : X.A.units < cLine) : OpR X (compareOp .Eq) (rNilT X.K) := by
  intro pins s σ H x y v u Q I rx ry h
  obtain ⟨l, b, xs, rfl, rfl, hl, hb, q⟩ := h
  cases rx
  cases ry
  obtain ⟨its, rv, pl, _⟩ := I.tuple hl
  obtain ⟨its2, rv2, pl2, _⟩ := I.tuple hb
  cases rv2
  have hn := rv.length
  refine SeqAt.eq_tupleAt (e := fun _ => true) pl pl2 hu (fun j h1 h2 => absurd h2 (Nat.not_lt_zero _)) ⟨.bl _, H, I, ?_, q⟩
  cases xs with
  | nil =>
    cases rv
    rfl
  | cons z zs =>
    show Value.bool _ = Value.bool _
    congr 1
    rw [List.size_toArray, ← hn]
    rfl
end
section
variable {X : Cx} {pins : List (Addr × Obj)} {σ : L2.St} {H : Hp} {s : Shared} {prog : Program} {w : World} {A : Around} {E : Value → Shared → Prop}
theorem mul_one (l : Addr) (items : Array Value) (n : Nat) (dd : Option Addr) (sl : Array (Option Value)) (u : Tok) :
    Meets (Builtin.«tuple.__mul__» ⟨[.ref l, .int 1 u], []⟩) (fun _ R s => s.heap.get? l = some { cls := .type "tuple", dict := dd, data := .seq items n, slots := sl } ∧ R (.ok (.ret (Value.ref l))) s) :=
  .of_wp fun prog w A R s h => by
    obtain ⟨hp, g, d, tk, os⟩ := s
    obtain ⟨hl, h⟩ := h
    have f1 := AutoSeq1.idx_int
    wp_walk using wpAny_loadPart' hl
    exact ⟨_, rfl, h⟩
def rRep1 (K : PySem.W.Frag) : R2 := fun x y H Q => ∃ l xs, x = .ref l ∧ y = .int 1 ∧ SqT K H l xs ∧ Q (.ref l) H
theorem op_rep1 : OpR X (binaryOp .Mult) (rRep1 X.K) := by
  intro pins s σ H x y v u Q I rx ry h
  obtain ⟨l, xs, rfl, rfl, hT, q⟩ := h
  cases rx
  obtain ⟨t, rfl⟩ := ry
  obtain ⟨its, r, ⟨⟨cls, dd, data, sl⟩, ho, hc, n, hd⟩, _⟩ := I.tuple hT
  cases hc
  cases hd
  exact wpAny_binaryOp_repeat_ref (T := "tuple") (U := "int") (by decide) ⟨_, ho, rfl⟩ (fun s' => typeIs_int s' 1 t) noFill_tuple_mul F.fills_int_mul F.slot_int_rmul repeat_tuple F.slot_int_index.lookup
    (call_meets F.slot_int_rmul (typeIs_int s 1 t) F.entry_int_rmul (F.args_int_rmul_2 _ _) (int_rmul_tuple 1 t l its.toArray n dd sl)
      ⟨ho, rfl, ⟨_, ho, rfl⟩, call_meets F.slot_tuple_mul ⟨_, ho, rfl⟩ F.entry_tuple_mul (F.args_tuple_mul_2 _ _) (mul_one l its.toArray n dd sl t) ⟨ho, .ref l, H, I, rfl, q⟩⟩)
/-- t * k for a small k from 1 on -/
def rRepS (K : PySem.W.Frag) : R2 := fun x y H Q => ∃ l k xs, x = .ref l ∧ y = .int k ∧ Rd H l (.tup xs) ∧ xs ≠ [] ∧ 1 ≤ k ∧ k ≤ 1000 ∧ xs.length ≤ 1000 ∧ ∀ q H', Same H H' → Rd H' q (.tup (List.replicate k.toNat xs).flatten) → (q = l ∨ H q = none) → Q (.ref q) H'
theorem op_repS : OpR X (binaryOp .Mult) (rRepS X.K) := by
  intro pins s σ H x y v u Q I rx ry h
  obtain ⟨l, k, xs, rfl, rfl, hT, hne, k1, k2, hz, q⟩ := h
  by_cases e : k = 1
  · subst e
    refine op_rep1 pins s σ H _ _ v u Q I rx ry ⟨l, xs, rfl, rfl, .inl hT, q l H (Same.refl H) ?_ (.inl rfl)⟩
    rw [show (List.replicate (1 : Int).toNat xs).flatten = xs by simp]
    exact hT
  · exact op_repT pins s σ H _ _ v u Q I rx ry ⟨l, k, xs, rfl, rfl, .inl hT, hne, by omega, k2, hz, fun p hp => q p _ (same_new hp) (.inl upd_same) (.inr hp)⟩
end
/-! ### the text by places -/
def top (i : Nat) : Stmt := PySem.Challenge.pw_sortedshelves_k37_made_comparisons.main.body.getD i (.Pass ⟨0, 0, 0, 0⟩)
abbrev sCols : Stmt := top 6
abbrev sByRanks : Stmt := top 7
abbrev sRanked : Stmt := top 8
abbrev sByLen : Stmt := top 9
abbrev sTurned : Stmt := top 10
abbrev sThen : Stmt := top 11
abbrev sDeck : Stmt := top 13
abbrev sDraw : Stmt := top 14
abbrev sOne : Stmt := top 15
abbrev sColsL : Stmt := top 16
abbrev sComp : Stmt := top 17
abbrev sRankedL : Stmt := top 19
abbrev sTurnedL : Stmt := top 20
abbrev sThenL : Stmt := top 21
abbrev sOrder : Stmt := top 22
abbrev sTold : Stmt := top 23
abbrev sDue : Stmt := top 24
abbrev sLaw : Stmt := top 25
theorem scDeck : FnScope ["_law_script", "_law_cell"] ["_law_script"] (defScope sDeck) := ⟨rfl, rfl, rfl, by decide +kernel, rfl, by decide +kernel, by decide +kernel⟩
theorem scDraw : FnScope ["_law_deck_here", "_law_most", "_law_cell", "_law_at", "_law_mixed"] ["_law_deck_here", "_law_most"] (defScope sDraw) := ⟨rfl, rfl, rfl, by decide +kernel, rfl, by decide +kernel, by decide +kernel⟩
theorem scOne : FnScope ["_law_deck_here", "_law_items"] ["_law_deck_here", "_law_items"] (defScope sOne) := ⟨rfl, rfl, rfl, by decide +kernel, rfl, by decide +kernel, by decide +kernel⟩
def DeckAt (a c : Addr) (cells : List Int) (n : Int) (H : Hp) : Prop :=
  a ≠ c ∧ H a = some (.lst [.ref c, .int n]) ∧ H c = some (.lst (cells.map V.int)) ∧ cells.length ≤ 63 ∧ (∀ z ∈ cells, 0 ≤ z)
theorem cut_ints (ns : List Int) (lo hi : Option Int) : ∃ ms : List Int, cutV (ns.map V.int) lo hi = ms.map V.int ∧ ms.length ≤ ns.length := by
  unfold cutV
  refine ⟨(ns.drop (HT.sIx (ns.map V.int).length 0 lo)).take (HT.sIx (ns.map V.int).length (ns.map V.int).length hi - HT.sIx (ns.map V.int).length 0 lo), by rw [List.map_take, List.map_drop], ?_⟩
  rw [List.length_take, List.length_drop]
  omega
theorem int_at {ns : List Int} {i : Nat} {x : V} (h : (ns.map V.int)[i]? = some x) : ∃ u, x = V.int u := by
  rw [List.getElem?_map] at h
  obtain ⟨u, _, e⟩ := Option.map_eq_some_iff.mp h
  exact ⟨u, e.symm⟩
section
variable {P : Program} {w : World} {K : PySem.W.Frag} {mg : Str → Option Value} {base : Heap}
def spDeck (K : PySem.W.Frag) : Sp := fun vs H Q _ => ∃ (l : Addr) (ns : List Int), vs = [.ref l] ∧ SqL K H l (ns.map V.int) ∧ ns.length ≤ 63 ∧
  ∀ (H' : Hp) (a c : Addr) (cells : List Int), Same H H' → H a = none → H c = none → DeckAt a c cells 0 H' → Q (.ref a) H'
theorem ok_deck {f : Addr} {fd : FuncData} (F : Fun K "_law_deck" "_law_deck" sDeck f fd) (mAbs : mg "abs" = none) : FnOk P w K mg base CX0 1 f fd ["_law_script"] (spDeck K) := by
  refine F.ok scDeck (fun vs H Q E h => ?_) (fun cdv A outer s H vs Q E hr h => ?_)
  · obtain ⟨l, ns, rfl, _⟩ := h
    rfl
  · obtain ⟨l, ns, rfl, hS, hlen, k⟩ := h
    refine ⟨_, pss_one (ps_ret (pe_lst (pa_cons (pe_lc (own := [("_law_cell", 1)]) (g := gName 1) (tt := tYes) rfl scDeck.nd (pi_list (pe_slice sl_list (pv 0) po_none (po_some pe_int))) (blkOk_by (N := ["_law_script", "_law_cell"]) (sc := defScope sDeck) (by decide +kernel)) (fun _ _ _ _ _ => pg_name (i := 1) scDeck.nd rfl (Or.inl rfl)) (fun _ _ _ _ _ => pts_nil)
      (fun _ _ _ _ _ => pe_callB call_abs (by rfl) mAbs (by decide +kernel) (pa_cons (pv 1) pa_nil))) (pa_cons pe_int pa_nil)))), ?_⟩
    refine ⟨_, rfl, 63, rfl, l, _, rfl, hS, fun p hp => ?_⟩
    obtain ⟨ms, e, hm⟩ := cut_ints ns none (some 63)
    rw [e]
    refine ⟨p, rfl, ⟨_, SqL.of upd_same⟩, fun D hD => ?_⟩
    have np : p ≠ D := ne_of_none upd_same hD
    have hD0 : H D = none := by
      rw [upd_ne np.symm] at hD
      exact hD
    refine lc_list (K := K) (a := p) (xs := ms.map V.int) (fun i H' => Same H H' ∧ H' p = some (.lst (ms.map V.int)) ∧ ∃ cs : List Int, H' D = some (.lst (cs.map V.int)) ∧ cs.length = i ∧ ∀ z ∈ cs, 0 ≤ z) ⟨?_, ?_, [], upd_same, rfl, fun z hz => absurd hz List.not_mem_nil⟩ (fun i H' _ q => SqL.of q.2.1) ?_ ?_
    · exact (same_new hp).trans (same_new hD)
    · rw [upd_ne np, upd_same]
    · rintro i x H' hx ⟨sm, hp', cs, hD', hl, hc⟩
      obtain ⟨u, rfl⟩ := int_at hx
      refine ⟨rfl, ?_⟩
      refine ⟨_, rfl, u, rfl, _, hD', ?_, fun b o z => ?_, ?_, cs ++ [if u < 0 then -u else u], ?_, ?_, ?_⟩
      · have hi := (List.getElem?_eq_some_iff.mp hx).1
        rw [List.length_map] at hi ⊢
        exact small1000 (by omega)
      · rw [upd_ne (ne_of_none z hD0)]
        exact sm _ _ z
      · rw [upd_ne np]
        exact hp'
      · rw [upd_same, List.map_append]
        rfl
      · rw [List.length_append, hl]
        rfl
      · intro z hz
        rcases List.mem_append.mp hz with hz | hz
        · exact hc z hz
        · rw [List.mem_singleton.mp hz]
          split <;> omega
    · rintro H' ⟨sm, hp', cs, hD', hl, hc⟩
      rw [List.length_map] at hl
      refine ⟨(by show 2 ≤ sizeLine; decide), fun a ha => ?_⟩
      have na : D ≠ a := ne_of_none hD' ha
      have ha0 : H a = none := sm.free ha
      refine k _ a D cs (sm.trans (same_new ha)) ha0 hD0 ⟨na.symm, upd_same, ?_, by omega, hc⟩
      rw [upd_ne na]
      exact hD'
end
/-- the deck's two lists -/
def Bd (a c : Addr) : Addr → Prop := fun b => b = a ∨ b = c
theorem bd_ne {a c b : Addr} {H : Hp} {o : HO} (e : H b = some o) (nl : ∀ xs, o ≠ .lst xs) {xs ys : List V} (ha : H a = some (.lst xs)) (hc : H c = some (.lst ys)) : ¬ Bd a c b := by
  rintro (h | h)
  · rw [h, ha] at e
    exact nl _ (Option.some.inj e).symm
  · rw [h, hc] at e
    exact nl _ (Option.some.inj e).symm
theorem bd_new {a c p : Addr} {H : Hp} {xs ys : List V} (n : H p = none) (ha : H a = some (.lst xs)) (hc : H c = some (.lst ys)) : ¬ Bd a c p := by
  rintro (h | h)
  · rw [h, ha] at n
    cases n
  · rw [h, hc] at n
    cases n
theorem keep_upd {a c x : Addr} {H : Hp} {o : HO} (h : Bd a c x) : Keep (Bd a c) H (upd H x o) := fun b u n e => by
  rw [upd_ne (fun z : b = x => n (z.symm ▸ h))]
  exact e
section
variable {P : Program} {w : World} {K : PySem.W.Frag} {mg : Str → Option Value} {base : Heap}
def spDraw : Sp := fun vs H Q _ => ∃ (a c : Addr) (cells : List Int) (n m : Int), vs = [.ref a, .int m] ∧ DeckAt a c cells n H ∧ 1 ≤ m ∧ m ≤ 1000000 ∧ 0 ≤ n ∧ n ≤ 1000000 ∧
  ∀ (H' : Hp) (cells' : List Int) (r : Int), 0 ≤ r → r < m → DeckAt a c cells' (n + 1) H' → Keep (Bd a c) H H' → Q (.int r) H'
theorem ok_draw {f : Addr} {fd : FuncData} (F : Fun K "_law_draw" "_law_draw" sDraw f fd) (mLen : mg "len" = none) (mInt : mg "int" = none) : FnOk P w K mg base CX0 1 f fd ["_law_deck_here", "_law_most"] spDraw := by
  refine F.ok scDraw (fun vs H Q E h => ?_) (fun cdv A outer s H vs Q E hr h => ?_)
  · obtain ⟨a, c, cells, n, m, rfl, _⟩ := h
    rfl
  · obtain ⟨a, c, cells, n, m, rfl, ⟨nac, ha, hc, hlen, hpos⟩, m1, m2, n1, n2, k⟩ := h
    refine ⟨_, pss_cons (ps_asg (pe_op op_add (pe_ix ix_list (pv 0) pe_int (fun _ _ => rfl)) pe_int) (pg_sub (pv 0) pe_int set_list))
      (pss_cons (ps_asg (pe_tup (pa_cons pe_int (pa_cons (pe_un un_neg pe_int) pa_nil))) (pg_tup rfl (pgs_cons (pg_name (i := 2) scDraw.nd rfl (.inl rfl)) (pgs_cons (pg_name (i := 3) scDraw.nd rfl (.inl rfl)) pgs_nil))))
      (Evl.pss_cut (ps_if (pt_cmpR op_gt (pe_callB call_len_seq (by rfl) mLen PySem.boot_len (pa_cons (pe_ix ix_list (pv 0) pe_int (fun _ _ => rfl)) pa_nil)) pe_int (nomark _))
        (pss_cons (ps_set (i := 3) scDraw.nd rfl (.inl rfl) (pe_op op_mod (pe_callTy call_int1 (by rfl) mInt (by decide +kernel) (pa_cons (pe_ix ix_list (pv 0) pe_int (fun _ _ => rfl)) pa_nil)) (pe_callB call_len_seq (by rfl) mLen PySem.boot_len (pa_cons (pe_ix ix_list (pv 0) pe_int (fun _ _ => rfl)) pa_nil))))
        (pss_one (ps_set (i := 2) scDraw.nd rfl (.inl rfl) (pe_ix ix_list (pe_ix ix_list (pv 0) pe_int (fun _ _ => rfl)) (pv 3) (fun _ _ => rfl)))))
        pss_nil)
      (pss_cons (ps_if (pt_cmpR op_ge (pv 2) (pe_op op_pow pe_int pe_int) (nomark _))
        (pss_cons (ps_asg (pe_op op_fdivW (pe_callTy call_int1 (by rfl) mInt (by decide +kernel) (pa_cons (pv 2) pa_nil)) (pv 1)) (pg_sub (pe_ix ix_list (pv 0) pe_int (fun _ _ => rfl)) (pv 3) set_list))
          (pss_one (ps_ret (pe_op op_mod (pe_callTy call_int1 (by rfl) mInt (by decide +kernel) (pa_cons (pv 2) pa_nil)) (pv 1)))))
        pss_nil)
      (pss_cons (ps_set (i := 4) scDraw.nd rfl (.inl rfl) (pe_op op_add (pe_op op_add (pe_op op_mod (pe_callTy call_int1 (by rfl) mInt (by decide +kernel) (pa_cons (pv 2) pa_nil)) pe_int) (pe_op op_mul pe_int (pe_ix ix_list (pv 0) pe_int (fun _ _ => rfl)))) pe_int))
      (pss_one (ps_ret (pe_op op_mod (pe_callTy call_int1 (by rfl) mInt (by decide +kernel) (pa_cons (pe_op op_mod (pe_callTy call_int1 (by rfl) mInt (by decide +kernel) (pa_cons (pe_op op_pow (pv 4) pe_int) pa_nil)) pe_int) pa_nil)) (pv 1)))))))), ?_⟩
    refine ⟨.ref a, rfl, a, _, 1, _, rfl, rfl, SqL.of ha, atI_nat (j := 1) rfl, n, 1, rfl, rfl, .ref a, rfl, a, _, 1, 1, rfl, rfl, ha, rfl, ?_⟩
    have hA1 : upd H a (.lst [.ref c, .int (n + 1)]) a = some (.lst [.ref c, .int (n + 1)]) := upd_same
    have hC1 : upd H a (.lst [.ref c, .int (n + 1)]) c = some (.lst (cells.map V.int)) := by
      rw [upd_ne nac.symm]
      exact hc
    have k1 : Keep (Bd a c) H (upd H a (.lst [.ref c, .int (n + 1)])) := keep_upd (.inl rfl)
    refine ⟨1, rfl, (by show 2 ≤ sizeLine; decide), fun T hT => ?_⟩
    have k2 := k1.trans (keep_new (B := Bd a c) (o := .tup [.int 0, .int (-1)]) hT)
    have hA2 : upd (upd H a (.lst [.ref c, .int (n + 1)])) T (.tup [.int 0, .int (-1)]) a = some (.lst [.ref c, .int (n + 1)]) := by
      rw [upd_ne (ne_of_none hA1 hT)]
      exact hA1
    have hC2 : upd (upd H a (.lst [.ref c, .int (n + 1)])) T (.tup [.int 0, .int (-1)]) c = some (.lst (cells.map V.int)) := by
      rw [upd_ne (ne_of_none hC1 hT)]
      exact hC1
    have hT2 : upd (upd H a (.lst [.ref c, .int (n + 1)])) T (.tup [.int 0, .int (-1)]) T = some (.tup [.int 0, .int (-1)]) := upd_same
    refine ⟨T, _, rfl, SqT.of hT2, rfl, .int 0, [.int (-1)], rfl, .int (-1), [], rfl, rfl, ?_⟩
    refine ⟨fun σ' H' => ∃ cell at_ : Int, σ' = [some (.ref a), some (.int m), some (.int cell), some (.int at_), none] ∧ Keep (Bd a c) H H' ∧ H' a = some (.lst [.ref c, .int (n + 1)]) ∧ H' c = some (.lst (cells.map V.int)) ∧ 0 ≤ cell ∧ (10 ^ 18 ≤ cell → ∃ j : Nat, j < cells.length ∧ at_ = (j : Int)), ?_, ?_⟩
    · refine ⟨.ref a, rfl, a, _, 0, .ref c, rfl, rfl, SqL.of hA2, atI_nat (j := 0) rfl, c, _, rfl, .inl (SqL.of hC2), _, _, rfl, rfl, _, rfl, ite2 (fun h0 => ?_) (fun h0 => ?_)⟩
      · have h0 := of_decide_eq_true h0
        rw [List.length_map] at h0
        obtain ⟨j, hj, ej⟩ : ∃ j : Nat, j < cells.length ∧ (n + 1) % ((cells.map V.int).length : Int) = (j : Int) := by
          rw [List.length_map]
          have x1 := Int.emod_nonneg (n + 1) (b := (cells.length : Int)) (by omega)
          have x2 := Int.emod_lt_of_pos (n + 1) (b := (cells.length : Int)) h0
          exact ⟨((n + 1) % (cells.length : Int)).toNat, by omega, by omega⟩
        have gj : (cells.map V.int)[j]? = some (.int cells[j]) := by
          rw [List.getElem?_map, List.getElem?_eq_getElem hj]
          rfl
        refine ⟨.ref a, rfl, a, _, 1, _, rfl, rfl, SqL.of hA2, atI_nat (j := 1) rfl, .inl ⟨n + 1, rfl, .ref a, rfl, a, _, 0, .ref c, rfl, rfl, SqL.of hA2, atI_nat (j := 0) rfl, c, _, rfl, .inl (SqL.of hC2), _, _, rfl, rfl, (by rw [List.length_map]; exact h0), ?_⟩⟩
        refine ⟨.ref a, rfl, a, _, 0, .ref c, rfl, rfl, SqL.of hA2, atI_nat (j := 0) rfl, .int j, by rw [← ej]; rfl, c, _, _, _, rfl, rfl, SqL.of hC2, atI_nat gj, ?_⟩
        exact ⟨cells[j], j, by rw [← ej]; rfl, k2, hA2, hC2, hpos _ (List.getElem_mem hj), fun _ => ⟨j, hj, rfl⟩⟩
      · exact ⟨0, -1, rfl, k2, hA2, hC2, Int.le_refl _, fun z => absurd z (by decide)⟩
    · rintro σ' H3 ⟨cell, at_, rfl, k3, hA3, hC3, hp, hj⟩
      refine ⟨_, rfl, 10, 18, rfl, rfl, ⟨by decide, by decide, by decide⟩, _, _, rfl, rfl, _, rfl, ite2 (fun h0 => ?_) (fun h0 => ?_)⟩
      · obtain ⟨j, hj2, ea⟩ := hj (of_decide_eq_true h0)
        subst ea
        refine ⟨_, rfl, .inl ⟨cell, rfl, _, rfl, _, _, rfl, rfl, wide_div (b := 20) (by omega) (by omega) (by decide) (by decide), .ref a, rfl, a, _, 0, .ref c, rfl, rfl, SqL.of hA3, atI_nat (j := 0) rfl, _, rfl, c, _, _, j, rfl, rfl, hC3, Evl.ixN_nat (by rw [List.length_map]; exact hj2), ?_⟩⟩
        refine ⟨_, rfl, .inl ⟨cell, rfl, _, rfl, _, _, rfl, rfl, (by omega), ?_⟩⟩
        refine k _ (cells.set j (cell / m)) _ (Int.emod_nonneg _ (by omega)) (Int.emod_lt_of_pos _ (by omega)) ⟨nac, ?_, ?_, ?_, ?_⟩ (k3.trans (keep_upd (.inr rfl)))
        · rw [upd_ne nac]
          exact hA3
        · rw [upd_same, List.map_set]
        · rw [List.length_set]
          exact hlen
        · intro z hz
          rcases List.mem_or_eq_of_mem_set hz with hz | hz
          · exact hpos z hz
          · rw [hz]
            exact Int.ediv_nonneg hp (by omega)
      · have b1 := Int.emod_nonneg cell (b := 2147483179) (by decide)
        have b2 := Int.emod_lt_of_pos cell (b := 2147483179) (by decide)
        refine ⟨_, rfl, .inl ⟨cell, rfl, _, _, rfl, rfl, (by show (0 : Int) < 2147483179; decide), .ref a, rfl, a, _, 1, _, rfl, rfl, SqL.of hA3, atI_nat (j := 1) rfl, 5501, n + 1, rfl, rfl, .inl ⟨by decide, by decide⟩, _, _, rfl, rfl, _, _, rfl, rfl, ?_⟩⟩
        refine ⟨_, rfl, cell % 2147483179 + 5501 * (n + 1) + 29, 5, rfl, rfl, ⟨by decide, by decide, by omega⟩, .inl ⟨_, rfl, _, _, rfl, rfl, (by show (0 : Int) < 2147483423; decide), .inl ⟨_, rfl, _, rfl, _, _, rfl, rfl, (by omega), ?_⟩⟩⟩
        exact k _ cells _ (Int.emod_nonneg _ (by omega)) (Int.emod_lt_of_pos _ (by omega)) ⟨nac, hA3, hC3, hlen, hpos⟩ k3
end
section
variable {P : Program} {w : World} {K : PySem.W.Frag} {mg : Str → Option Value} {base : Heap}
def spOne (K : PySem.W.Frag) : Sp := fun vs H Q _ => ∃ (a c l : Addr) (cells : List Int) (n : Int) (xs : List V), vs = [.ref a, .ref l] ∧ DeckAt a c cells n H ∧ 0 ≤ n ∧ n ≤ 1000000 ∧ SqL K H l xs ∧ ¬ Bd a c l ∧ xs ≠ [] ∧ xs.length ≤ 1000 ∧
  ∀ (H' : Hp) (cells' : List Int) (x : V), x ∈ xs → DeckAt a c cells' (n + 1) H' → Keep (Bd a c) H H' → Q x H'
theorem ok_one {f fD : Addr} {fd fdD : FuncData} (F : Fun K "_law_one" "_law_one" sOne f fd) (D : FnOk P w K mg base CX0 1 fD fdD ["_law_deck_here", "_law_most"] spDraw) (FD : Fun K "_law_draw" "_law_draw" sDraw fD fdD) (bD : Binds K fdD ["_law_deck_here", "_law_most"] [])
    (gD : mg "_law_draw" = some (.ref fD)) (mLen : mg "len" = none) : FnOk P w K mg base CX0 2 f fd ["_law_deck_here", "_law_items"] (spOne K) := by
  refine F.ok scOne (fun vs H Q E h => ?_) (fun cdv A outer s H vs Q E hr h => ?_)
  · obtain ⟨a, c, l, cells, n, xs, rfl, _⟩ := h
    rfl
  · obtain ⟨a, c, l, cells, n, xs, rfl, dk, n0, n1, hL, nb, hne, hlen, k⟩ := h
    refine ⟨_, pss_one (ps_ret (pe_ix ix_list (pv 1) (pe_call D hr (by rfl) gD FD.kp bD .nil pass0 (pa_cons (pv 0) (pa_cons (pe_callB call_len_seq (by rfl) mLen PySem.boot_len (pa_cons (pv 1) pa_nil)) pa_nil))) (fun _ _ => rfl))), ?_⟩
    have lp : 0 < xs.length := List.length_pos_iff.mpr hne
    refine ⟨_, rfl, _, rfl, _, rfl, l, xs, rfl, .inl hL, a, c, cells, n, _, rfl, dk, by omega, by omega, n0, n1, fun H' cells' r r0 r1 dk' kp => ?_⟩
    have hr2 : r.toNat < xs.length := by omega
    refine ⟨l, xs, r, xs[r.toNat], rfl, rfl, kp.seqL nb hL, ?_, k H' cells' _ (List.getElem_mem hr2) dk' kp⟩
    have e := atI_nat (List.getElem?_eq_getElem hr2)
    rw [show ((r.toNat : Nat) : Int) = r by omega] at e
    exact e
end
/-- the built-in names that nobody stores, and the program's constants -/
structure Mg (mg : Str → Option Value) : Prop where
  len : mg "len" = none
  int : mg "int" = none
  range : mg "range" = none
  tuple : mg "tuple" = none
  abs : mg "abs" = none
  repr : mg "repr" = none
  zip : mg "zip" = none
  ms : ∃ t, mg "MAX_STANDS" = some (.int 60 t)
def wide (L : Int) : Nat := ((L + 1) * (L + 1) - 1).toNat
/-! ### data, counted and kept apart -/
theorem Dt.len_le {B : Addr → Prop} {K : PySem.W.Frag} {H : Hp} {a : Addr} {ds : List PyData} (h : Dt B K H (.ref a) (.tuple ds)) : ∃ xs, SqT K H a xs ∧ DtAll B K H xs ds ∧ xs.length = ds.length := by
  cases h with
  | tup nb hs ha => exact ⟨_, .inl hs, ha, ha.len⟩
theorem Dt.tup_ref {B : Addr → Prop} {K : PySem.W.Frag} {H : Hp} {v : V} {ds : List PyData} (h : Dt B K H v (.tuple ds)) : ∃ a xs, v = .ref a ∧ ¬ B a ∧ SqT K H a xs ∧ DtAll B K H xs ds ∧ xs.length = ds.length := by
  cases h with
  | tup nb hs ha => exact ⟨_, _, rfl, nb, .inl hs, ha, ha.len⟩
theorem Dt.tup_rd {B : Addr → Prop} {K : PySem.W.Frag} {H : Hp} {v : V} {ds : List PyData} (h : Dt B K H v (.tuple ds)) : ∃ a xs, v = .ref a ∧ ¬ B a ∧ Rd H a (.tup xs) ∧ DtAll B K H xs ds ∧ xs.length = ds.length := by
  cases h with
  | tup nb hs ha => exact ⟨_, _, rfl, nb, hs, ha, ha.len⟩
mutual
theorem Dt.off {B : Addr → Prop} {K : PySem.W.Frag} {H : Hp} {q : Addr} (n : H q = none) : ∀ (d : PyData) (v : V), Dt B K H v d → Dt (fun b => B b ∨ b = q) K H v d
  | .none, _, h => by cases h; exact .non
  | .bool _, _, h => by cases h; exact .bl _
  | .int _, _, h => by cases h; exact .int _
  | .str _, _, h => by cases h; exact .str _
  | .list ds, _, h => by
    cases h with
    | lst nb ne hs ha =>
      refine .lst (fun z => ?_) ne hs (DtAll.off n ds _ ha)
      rcases z with z | z
      · exact nb z
      · rw [z] at hs
        rcases hs with e | ⟨o, e⟩ <;> (rw [n] at e; cases e)
  | .tuple ds, _, h => by
    cases h with
    | tup nb hs ha =>
      refine .tup (fun z => ?_) hs (DtAll.off n ds _ ha)
      rcases z with z | z
      · exact nb z
      · rw [z] at hs
        rcases hs with e | ⟨o, e⟩ <;> (rw [n] at e; cases e)
  | .dict _, _, h => by
    cases h with
    | emp nb e =>
      refine .emp (fun z => ?_) e
      rcases z with z | z
      · exact nb z
      · rw [z, n] at e
        cases e
theorem DtAll.off {B : Addr → Prop} {K : PySem.W.Frag} {H : Hp} {q : Addr} (n : H q = none) : ∀ (ds : List PyData) (vs : List V), DtAll B K H vs ds → DtAll (fun b => B b ∨ b = q) K H vs ds
  | [], _, h => by cases h; exact .nil
  | d :: ds, _, h => by
    cases h with
    | cons h1 h2 => exact .cons (Dt.off n d _ h1) (DtAll.off n ds _ h2)
end
theorem same_dt {B : Addr → Prop} {K : PySem.W.Frag} {H H' : Hp} {v : V} {d : PyData} (s : Same H H') (h : Dt B K H v d) : Dt B K H' v d := Dt.keep (Keep.same s) d v h
theorem same_seqT {K : PySem.W.Frag} {H H' : Hp} {a : Addr} {xs : List V} (s : Same H H') (h : SqT K H a xs) : SqT K H' a xs := Keep.seqT (B := fun _ => False) (Keep.same s) (fun z => z) h
theorem all_take {f : PyData → Bool} {ds : List PyData} : ((ds.map f).all id) = ds.all f := by
  rw [List.all_map]
  rfl
mutual
def nodes : PyData → Nat
  | .list xs => 1 + nodesAll xs
  | .tuple xs => 1 + nodesAll xs
  | .none => 1
  | .bool _ => 1
  | .int _ => 1
  | .str _ => 1
  | .dict _ => 1
def nodesAll : List PyData → Nat
  | [] => 0
  | x :: xs => nodes x + nodesAll xs
end
theorem nodes_pos : ∀ d : PyData, 1 ≤ nodes d
  | .list xs => by unfold nodes; omega
  | .tuple xs => by unfold nodes; omega
  | .none => by unfold nodes; omega
  | .bool _ => by unfold nodes; omega
  | .int _ => by unfold nodes; omega
  | .str _ => by unfold nodes; omega
  | .dict _ => by unfold nodes; omega
theorem nodes_tup (xs : List PyData) : nodes (.tuple xs) = 1 + nodesAll xs := by rw [nodes]
theorem nodes_lst (xs : List PyData) : nodes (.list xs) = 1 + nodesAll xs := by rw [nodes]
theorem nodesAll_cons (x : PyData) (xs : List PyData) : nodesAll (x :: xs) = nodes x + nodesAll xs := by rw [nodesAll]
theorem nodesAll_nil : nodesAll [] = 0 := by rw [nodesAll]
theorem len_nodes : ∀ xs : List PyData, xs.length ≤ nodesAll xs
  | [] => Nat.zero_le _
  | x :: xs => by
    have := len_nodes xs
    have := nodes_pos x
    rw [nodesAll_cons, List.length_cons]
    omega
theorem mem_nodes : ∀ {xs : List PyData} {x : PyData}, x ∈ xs → nodes x ≤ nodesAll xs
  | [], _, h => absurd h List.not_mem_nil
  | y :: ys, x, h => by
    rw [nodesAll_cons]
    rcases List.mem_cons.mp h with e | e
    · rw [e]
      omega
    · have := mem_nodes e
      omega
theorem nodesAll_append : ∀ xs ys : List PyData, nodesAll (xs ++ ys) = nodesAll xs + nodesAll ys
  | [], ys => by rw [List.nil_append, nodesAll_nil, Nat.zero_add]
  | x :: xs, ys => by rw [List.cons_append, nodesAll_cons, nodesAll_cons, nodesAll_append xs ys, Nat.add_assoc]
theorem deck_upd {a c p : Addr} {cells : List Int} {n : Int} {H : Hp} {o : HO} (h : DeckAt a c cells n H) (np : ¬ Bd a c p) : DeckAt a c cells n (upd H p o) := by
  obtain ⟨h1, h2, h3, h4, h5⟩ := h
  refine ⟨h1, ?_, ?_, h4, h5⟩
  · rw [upd_ne (fun z : a = p => np (.inl z.symm))]
    exact h2
  · rw [upd_ne (fun z : c = p => np (.inr z.symm))]
    exact h3
theorem deck_off {a c p : Addr} {cells : List Int} {n : Int} {H : Hp} (h : DeckAt a c cells n H) (np : H p = none) : ¬ Bd a c p := bd_new np h.2.1 h.2.2.1
theorem deck_new {a c p : Addr} {cells : List Int} {n : Int} {H : Hp} {o : HO} (h : DeckAt a c cells n H) (np : H p = none) : DeckAt a c cells n (upd H p o) := deck_upd h (deck_off h np)
/-- a list that is made at D while the deck is drawn from: at most s draws an item -/
def CInv (a c D : Addr) (H0 : Hp) (G : V → Prop) (n0 s : Int) (j : Nat) (H' : Hp) : Prop :=
  ∃ (cells : List Int) (n' : Int) (acc : List V), DeckAt a c cells n' H' ∧ n0 ≤ n' ∧ n' ≤ n0 + s * j ∧ Keep (Bd a c) H0 H' ∧ H' D = some (.lst acc) ∧ acc.length = j ∧ ∀ v ∈ acc, G v
theorem cstart {a c D : Addr} {H0 : Hp} {G : V → Prop} {cells : List Int} {n0 s : Int} (dk : DeckAt a c cells n0 H0) (hD : H0 D = none) : CInv a c D H0 G n0 s 0 (upd H0 D (.lst [])) :=
  ⟨cells, n0, [], deck_new dk hD, Int.le_refl _, by simp, keep_new hD, upd_same, rfl, fun v z => absurd z List.not_mem_nil⟩
theorem cstep {a c D : Addr} {H0 H1 H2 : Hp} {G : V → Prop} {cells2 : List Int} {n0 s n1 n2 : Int} {j : Nat} {acc : List V} {v : V} (hD0 : H0 D = none) (nD : ¬ Bd a c D) (hj : j ≤ 1000) (h0 : n0 ≤ n1) (h1 : n1 ≤ n0 + s * j) (kp : Keep (Bd a c) H0 H1) (hD : H1 D = some (.lst acc)) (hl : acc.length = j)
    (hG : ∀ v ∈ acc, G v) (dk : DeckAt a c cells2 n2 H2) (h2 : n1 ≤ n2) (h3 : n2 ≤ n1 + s) (k2 : Keep (Bd a c) H1 H2) (g : G v) :
    ∃ acc', H2 D = some (.lst acc') ∧ acc'.length < sizeLine ∧ CInv a c D H0 G n0 s (j + 1) (upd H2 D (.lst (acc' ++ [v]))) := by
  refine ⟨acc, k2 _ _ nD hD, small1000 (by omega), cells2, n2, acc ++ [v], deck_upd dk nD, by omega, ?_, fun b o nb z => ?_, upd_same, ?_, fun u hu => ?_⟩
  · have e : s * ((j + 1 : Nat) : Int) = s * j + s := by
      rw [Int.natCast_add, Int.mul_add]
      simp
    rw [e]
    omega
  · rw [upd_ne (ne_of_none z hD0)]
    exact k2 _ _ nb (kp _ _ nb z)
  · rw [List.length_append, hl]
    rfl
  · rcases List.mem_append.mp hu with hu | hu
    · exact hG u hu
    · rw [List.mem_singleton.mp hu]
      exact g
mutual
theorem Dt.weak {B B' : Addr → Prop} {K : PySem.W.Frag} {H : Hp} (k : ∀ b, B' b → B b) : ∀ (d : PyData) (v : V), Dt B K H v d → Dt B' K H v d
  | .none, _, h => by cases h; exact .non
  | .bool _, _, h => by cases h; exact .bl _
  | .int _, _, h => by cases h; exact .int _
  | .str _, _, h => by cases h; exact .str _
  | .list ds, _, h => by
    cases h with
    | lst nb ne hs ha => exact .lst (fun z => nb (k _ z)) ne hs (DtAll.weak k ds _ ha)
  | .tuple ds, _, h => by
    cases h with
    | tup nb hs ha => exact .tup (fun z => nb (k _ z)) hs (DtAll.weak k ds _ ha)
  | .dict _, _, h => by
    cases h with
    | emp nb e => exact .emp (fun z => nb (k _ z)) e
theorem DtAll.weak {B B' : Addr → Prop} {K : PySem.W.Frag} {H : Hp} (k : ∀ b, B' b → B b) : ∀ (ds : List PyData) (vs : List V), DtAll B K H vs ds → DtAll B' K H vs ds
  | [], _, h => by cases h; exact .nil
  | d :: ds, _, h => by
    cases h with
    | cons h1 h2 => exact .cons (Dt.weak k d _ h1) (DtAll.weak k ds _ h2)
end
theorem Keep.wide {B B' : Addr → Prop} {H H' : Hp} (k : ∀ b, B b → B' b) (h : Keep B H H') : Keep B' H H' := fun b o n e => h b o (fun z => n (k b z)) e
section
variable {X : Cx}
/-- []: new, and no table of modules -/
def tNilN : TE := fun _ H Q => ∀ p, H p = none → p ≠ sysModules → Q (.ref p) (upd H p (.lst []))
theorem pe_nilN {pos : Pos} : PE X (.List [] pos) tNilN := by
  refine ⟨fun pins s σ H Q I h => ?_⟩
  refine wpAny_List_spliced (thn (pa_nil.run pos pins s σ H (fun xs H1 => xs = [] ∧ H1 = H) I ⟨rfl, rfl⟩) ?_)
  rintro us s1 ⟨xs, H1, I1, r, rfl, rfl⟩
  cases r
  exact ⟨Nat.zero_le _, .ref s1.heap.objs.size, _, I1.laid (o := .lst []) (t' := s1.toks) (fun b u e => Heap.get?_push_of_some _ e) (Nat.le_refl _) ⟨Nat.zero_le _, [], 0, .nil, Heap.get?_push_size _ rfl⟩, rfl, h _ (I1.hok.fresh (Nat.le_refl _)) (Nat.ne_of_gt I1.big)⟩
/-- list(t): new, and no table of modules -/
def rListN (K : PySem.W.Frag) : List V → Hp → VK → Prop := fun xs H Q => ∃ p ys, xs = [.ref p] ∧ SqT K H p ys ∧ ∀ l, H l = none → l ≠ sysModules → Q (.ref l) (upd H l (.lst ys))
theorem call_listN : CallR X (.type "list") (rListN X.K) := by
  intro pins s σ H xs us Q I r h
  obtain ⟨p, ys, rfl, hq, q⟩ := h
  obtain ⟨u, rfl, rx⟩ := vals1 r
  cases rx
  obtain ⟨its, rv, pl, hz⟩ := I.tuple hq
  have hlen := rv.length
  obtain ⟨o, ho, hc, n, hd⟩ := id pl
  refine call_list_seq p (.inr rfl) ho hc hd (fun h' c' kp e => ?_) (by simp only [List.size_toArray]; omega)
  exact ⟨.ref s.heap.objs.size, _, I.laid (t' := s.toks) kp (Nat.le_refl _) (show ObjOk X.prog X.w _ h' _ (.lst ys) from ⟨hz, its, c', rv, e⟩), rfl, q _ (I.hok.fresh (Nat.le_refl _)) (Nat.ne_of_gt I.big)⟩
/-- t[lo:hi], some tuple of the cut: t or a new one -/
def rSlS (K : PySem.W.Frag) : V → Option Int → Option Int → Hp → VK → Prop := fun x lo hi H Q => ∃ a xs, x = .ref a ∧ Rd H a (.tup xs) ∧ ∀ q H', Same H H' → Rd H' q (.tup (cutV xs lo hi)) → (q = a ∨ H q = none) → Q (.ref q) H'
theorem sl_tupS : SlR X (rSlS X.K) := by
  intro pins s σ H x v vl vu lo hi sl Q I rx hs pl pu h
  obtain ⟨a, xs, rfl, hx, q⟩ := h
  refine sl_tupA pins s σ H _ v vl vu lo hi sl Q I rx hs pl pu ⟨a, xs, rfl, .inl hx, fun hw => ?_, fun hw p hp => ?_⟩
  · refine q a H (Same.refl H) ?_ (.inl rfl)
    have e : cutV xs lo hi = xs := by
      unfold cutV
      rw [hw.1, hw.2, List.drop_zero, Nat.sub_zero, List.take_length]
    rw [e]
    exact hx
  · exact q p _ (same_new hp) (.inl upd_same) (.inr hp)
/-- t + u, some tuple of both -/
def rCatS (K : PySem.W.Frag) : R2 := fun x y H Q => ∃ a b xs ys, x = .ref a ∧ y = .ref b ∧ Rd H a (.tup xs) ∧ Rd H b (.tup ys) ∧ xs.length + ys.length ≤ sizeLine ∧ ∀ q H', Same H H' → Rd H' q (.tup (xs ++ ys)) → (q = a ∨ q = b ∨ H q = none) → Q (.ref q) H'
theorem op_catS : OpR X (binaryOp .Add) (rCatS X.K) := by
  intro pins s σ H x y v u Q I rx ry h
  obtain ⟨a, b, xs, ys, rfl, rfl, hx, hy, hz, q⟩ := h
  refine op_catA pins s σ H _ _ v u Q I rx ry ⟨a, b, xs, ys, rfl, rfl, .inl hx, .inl hy, hz, fun e => ?_, fun _ e => ?_, fun _ _ p hp => ?_⟩
  · subst e
    exact q b H (Same.refl H) hy (.inr (.inl rfl))
  · subst e
    refine q a H (Same.refl H) ?_ (.inl rfl)
    rw [List.append_nil]
    exact hx
  · exact q p _ (same_new hp) (.inl upd_same) (.inr (.inr hp))
end
theorem cut_take (xs : List V) (j : Nat) (h : j ≤ xs.length) : cutV xs none (some (j : Int)) = xs.take j := by
  unfold cutV
  rw [HT.sIx_none, HT.sIx_nat, List.drop_zero, Nat.sub_zero, Nat.min_eq_left h]
theorem cut_drop (xs : List V) (j : Nat) (h : j ≤ xs.length) : cutV xs (some (j : Int)) none = xs.drop j := by
  unfold cutV
  rw [HT.sIx_none, HT.sIx_nat, Nat.min_eq_left h]
  exact List.take_of_length_le (by rw [List.length_drop]; omega)
theorem cut_mid (xs : List V) (j : Nat) (h : j < xs.length) : cutV xs (some (j : Int)) (some ((j + 1 : Nat) : Int)) = (xs.drop j).take 1 := by
  unfold cutV
  rw [HT.sIx_nat, HT.sIx_nat, Nat.min_eq_left (by omega), Nat.min_eq_left (by omega)]
  congr 1
  omega
/-- all of B is tracked -/
def TB (B : Addr → Prop) (H : Hp) : Prop := ∀ b, B b → H b ≠ none
theorem tb_off {B : Addr → Prop} {H : Hp} {p : Addr} (tb : TB B H) (n : H p = none) : ¬ B p := fun z => tb p z n
theorem tb_upd {B : Addr → Prop} {H : Hp} {p : Addr} {o : HO} (tb : TB B H) : TB B (upd H p o) := fun b z e => by
  by_cases h : b = p
  · rw [h, upd_same] at e
    cases e
  · rw [upd_ne h] at e
    exact tb b z e
theorem tb_same {B : Addr → Prop} {H H' : Hp} (s : Same H H') (tb : TB B H) : TB B H' := fun b z e => by
  cases q : H b with
  | none => exact tb b z q
  | some o =>
    rw [s b o q] at e
    cases e
theorem tb_keep {B : Addr → Prop} {H H' : Hp} {a c : Addr} {cells : List Int} {n : Int} (tb : TB B H) (dk : DeckAt a c cells n H') (k : Keep (Bd a c) H H') : TB B H' := fun b z e => by
  by_cases h : Bd a c b
  · exact deck_off dk e h
  · cases q : H b with
    | none => exact tb b z q
    | some o =>
      rw [k b o h q] at e
      cases e
theorem new_tup {B : Addr → Prop} {p : Addr} {K : PySem.W.Frag} {H : Hp} {xs : List V} {ds : List PyData} (tb : TB B H) (h : H p = none) (ha : DtAll B K (upd H p (.tup xs)) xs ds) : Dt B K (upd H p (.tup xs)) (.ref p) (.tuple ds) :=
  .tup (tb_off tb h) (.inl upd_same) ha
theorem same_rd {H H' : Hp} {a : Addr} {o : HO} (s : Same H H') (h : Rd H a o) : Rd H' a o := Keep.rd (B := fun _ => False) (Keep.same s) (fun z => z) h
theorem deck_same {a c : Addr} {cells : List Int} {n : Int} {H H' : Hp} (s : Same H H') (h : DeckAt a c cells n H) : DeckAt a c cells n H' := ⟨h.1, s _ _ h.2.1, s _ _ h.2.2.1, h.2.2.2.1, h.2.2.2.2⟩
theorem sz_of {n : Nat} (h : n ≤ 100000) : n ≤ sizeLine := Nat.le_trans h (by decide)
theorem nb_of {B : Addr → Prop} {p q : Addr} {H : Hp} (tb : TB B H) (np : ¬ B p) (h : q = p ∨ H q = none) : ¬ B q := by
  rcases h with h | h
  · rw [h]
    exact np
  · exact tb_off tb h
theorem nb_of2 {B : Addr → Prop} {p r q : Addr} {H : Hp} (tb : TB B H) (np : ¬ B p) (nr : ¬ B r) (h : q = p ∨ q = r ∨ H q = none) : ¬ B q := by
  rcases h with h | h | h
  · rw [h]
    exact np
  · rw [h]
    exact nr
  · exact tb_off tb h
theorem same_seqL {K : PySem.W.Frag} {H H' : Hp} {a : Addr} {xs : List V} (s : Same H H') (h : SqL K H a xs) : SqL K H' a xs := L2.Same.seq s h
theorem same_all {B : Addr → Prop} {K : PySem.W.Frag} {H H' : Hp} {vs : List V} {ds : List PyData} (s : Same H H') (h : DtAll B K H vs ds) : DtAll B K H' vs ds := DtAll.keep (Keep.same s) _ _ h
theorem nodes_rev : ∀ xs : List PyData, nodesAll xs.reverse = nodesAll xs
  | [] => rfl
  | x :: xs => by rw [List.reverse_cons, nodesAll_append, nodes_rev xs, nodesAll_cons, nodesAll_cons, nodesAll_nil]; omega
/-! ### rules that hide the heap-/
def tLstA (t : TA) : TE := fun σ H Q => t σ H fun xs H1 => xs.length ≤ sizeLine ∧ ∀ p H', Same H1 H' → H1 p = none → p ≠ sysModules → H' p = some (.lst xs) → Q (.ref p) H'
def rCatA : R2 := fun x y H Q => ∃ l b xs zs, x = .ref l ∧ y = .ref b ∧ H l = some (.lst xs) ∧ H b = some (.lst zs) ∧ xs.length + zs.length ≤ sizeLine ∧ ∀ p H', Same H H' → H p = none → p ≠ sysModules → H' p = some (.lst (xs ++ zs)) → Q (.ref p) H'
section
variable {X : Cx}
def rCatN : R2 := fun x y H Q => ∃ l b xs zs, x = .ref l ∧ y = .ref b ∧ H l = some (.lst xs) ∧ H b = some (.lst zs) ∧ xs.length + zs.length ≤ sizeLine ∧ ∀ p, H p = none → p ≠ sysModules → Q (.ref p) (upd H p (.lst (xs ++ zs)))
theorem op_catN : OpR X (binaryOp .Add) rCatN := by
  intro pins s σ H x y v u Q I rx ry h
  obtain ⟨l, b, xs, zs, rfl, rfl, hx, hy, hz, q⟩ := h
  cases rx
  cases ry
  obtain ⟨_, its, n, r, h1, e⟩ := I.lstM hx
  obtain ⟨_, jts, m, r2, h2, e2⟩ := I.lstM hy
  refine PySem.P.add_list e e2 ?_ (by rw [List.size_toArray, List.size_toArray]; omega)
  rw [show its.toArray ++ jts.toArray = (its ++ jts).toArray by simp]
  exact ⟨.ref _, _, I.lnew (t' := s.toks) (r.append r2) (by rw [List.length_append]; omega), rfl, q _ I.fresh (Nat.ne_of_gt I.big)⟩
theorem pe_lstA {es : List Expr} {t : TA} {pos : Pos} (ht : PA X es t) : PE X (.List es pos) (tLstA t) := by
  refine ⟨fun pins s σ H Q I h => wpAny_List_spliced (thn (ht.run pos pins s σ H _ I h) ?_)⟩
  rintro us s1 ⟨xs, H1, I1, r, hz, q⟩
  have hl := r.length
  have np := I1.hok.fresh (Nat.le_refl s1.heap.objs.size)
  exact ⟨by rw [← hl]; exact hz, .ref s1.heap.objs.size, _, I1.laid (o := .lst xs) (t' := s1.toks) (fun b u e => Heap.get?_push_of_some _ e) (Nat.le_refl _) ⟨hz, us, 0, r, Heap.get?_push_size _ rfl⟩, rfl, q _ _ (same_new np) np (Nat.ne_of_gt I1.big) upd_same⟩
theorem op_catA' : OpR X (binaryOp .Add) rCatA := by
  intro pins s σ H x y v u Q I rx ry h
  obtain ⟨l, b, xs, zs, h1, h2, h3, h4, h5, q⟩ := h
  exact op_catN pins s σ H x y v u Q I rx ry ⟨l, b, xs, zs, h1, h2, h3, h4, h5, fun p np ns => q p _ (same_new np) np ns upd_same⟩
def tTupA (t : TA) : TE := fun σ H Q => t σ H fun xs H1 => xs.length ≤ sizeLine ∧ ∀ p H', Same H1 H' → H1 p = none → H' p = some (.tup xs) → Q (.ref p) H'
end
theorem ifF {A B : Prop} (h : B) : if false = true then A else B := h
theorem ifE {c : Bool} {A B : Prop} (e : c = false) (h : B) : if c = true then A else B := by
  rw [e]
  exact h
theorem ifT {c : Bool} {A B : Prop} (e : c = true) (h : A) : if c = true then A else B := by
  rw [e]
  exact h
/-! ### the law's columns -/
def chr1 (c : Nat) : Str := ⟨#[c]⟩
def sgS (L : Int) : Str := cutS "abc" none (some L) ++ "."
def sgs (L : Int) : List Nat := (sgS L).cps.toList
def colsAll (L : Int) : List Str := (sgs L).flatMap fun c => (sgs L).map fun e => chr1 c ++ chr1 e
def colsS (L : Int) : List Str := (colsAll L).dropLast
theorem L123 {L : Int} (h : 1 ≤ L) (h2 : L ≤ 3) : L = 1 ∨ L = 2 ∨ L = 3 := by omega
theorem sg_size {L : Int} (h : 1 ≤ L) (h2 : L ≤ 3) : (sgS L).cps.size ≤ 4 := by
  rcases L123 h h2 with rfl | rfl | rfl <;> decide +kernel
theorem cols_cut {L : Int} (h : 1 ≤ L) (h2 : L ≤ 3) : cutV ((colsAll L).map V.str) none (some (-1)) = (colsS L).map V.str := by
  rcases L123 h h2 with rfl | rfl | rfl <;> rfl
theorem cols_len {L : Int} (h : 1 ≤ L) (h2 : L ≤ 3) : (colsS L).length = wide L := by
  rcases L123 h h2 with rfl | rfl | rfl <;> decide +kernel
theorem chr_len (c e : Nat) : (chr1 c).length + (chr1 e).length ≤ sizeLine := by
  show 1 + 1 ≤ sizeLine
  decide
section
variable {P : Program} {w : World} {K : PySem.W.Frag} {mg : Str → Option Value} {base : Heap}
theorem scColsL : FnScope ["_law_letters", "_law_signs", "_law_found", "_law_one_here", "_law_other"] ["_law_letters"] (defScope sColsL) := ⟨rfl, rfl, rfl, by decide +kernel, rfl, by decide +kernel, by decide +kernel⟩
def spColsL : Sp := fun vs H Q _ => ∃ L : Int, vs = [.int L] ∧ 1 ≤ L ∧ L ≤ 3 ∧ ∀ (H' : Hp) (p : Addr), Same H H' → H p = none → H' p = some (.lst ((colsS L).map V.str)) → Q (.ref p) H'
theorem ok_colsL {f : Addr} {fd : FuncData} (F : Fun K "_law_columns" "_law_columns" sColsL f fd) (T : Mg mg) : FnOk P w K mg base CX0 1 f fd ["_law_letters"] spColsL := by
  refine F.ok scColsL (fun vs H Q E h => ?_) (fun cdv A outer s H vs Q E hr h => ?_)
  · obtain ⟨L, rfl, _⟩ := h
    rfl
  · obtain ⟨L, rfl, L1, L3, k⟩ := h
    have hsz := sg_size L1 L3
    refine ⟨_, pss_cons (ps_par (i := 1) (j := 2) rfl scColsL.nd rfl rfl (by decide) rfl rfl (pa_cons (pe_op op_add_str (pe_slice sl_str pe_str po_none (po_some (pv 0))) pe_str) (pa_cons (pe_lstA pa_nil) pa_nil)) (by rfl))
      (pss_cons (ps_for PassesOwn.never rfl (pi_str (pv 1)) (pg_name (i := 3) scColsL.nd rfl (.inr rfl))
        (pss_one (ps_expr (pe_bm PySem.F.plainAttrs_list PySem.F.slot_list_extend PySem.F.type_list_extend mt_extend (pv 2) (pa_cons (pe_lc (own := [("_law_other", 4)]) (g := gName 4) (tt := tYes) rfl scColsL.nd (pi_str (pv 1)) (blkOk_by (N := ["_law_letters", "_law_signs", "_law_found", "_law_one_here", "_law_other"]) (sc := defScope sColsL) (by decide +kernel)) (fun _ _ _ _ _ => pg_name (i := 4) scColsL.nd rfl (Or.inl rfl)) (fun _ _ _ _ _ => pts_nil)
          (fun _ _ _ _ _ => pe_op op_add_str (pv 3) (pv 4))) pa_nil)))))
      (pss_one (ps_ret (pe_slice sl_list (pv 2) po_none (po_some (pe_un un_neg pe_int)))))), ?_⟩
    refine ⟨_, rfl, L, rfl, "abc", rfl, by show 3 ≤ sizeLine; decide, _, _, rfl, rfl, ?_, by show 0 ≤ sizeLine; decide, fun p G s0 n0 _ l0 => ?_⟩
    · rcases L123 L1 L3 with rfl | rfl | rfl <;> decide +kernel
    refine ⟨_, _, rfl, ?_⟩
    refine ⟨_, rfl, sgS L, rfl, for_it walk_str (fun i σ H' => (∃ y3, σ = [some (.int L), some (.str (sgS L)), some (.ref p), y3, none]) ∧ Same H H' ∧ H' p = some (.lst ((((sgs L).take i).flatMap fun c => (sgs L).map fun e => chr1 c ++ chr1 e).map V.str)))
      ⟨⟨none, rfl⟩, s0, l0⟩ (fun _ _ _ _ _ => True.intro) ?_ ?_⟩
    · rintro i x σ H0 H1 hi ⟨⟨y3, rfl⟩, s2, l2⟩ ⟨rfl, c, hc, rfl⟩
      refine ⟨_, rfl, .inl ⟨rfl, _, SqL.of l2⟩, _, rfl, sgS L, rfl, fun D hD => ?_⟩
      have npD : p ≠ D := ne_of_none l2 hD
      refine lc_it walk_str (fun j H' => Same H1 H' ∧ H' D = some (.lst (((sgs L).take j).map fun e => V.str (chr1 c ++ chr1 e)))) ⟨same_new hD, upd_same⟩ (fun _ _ _ _ => True.intro) ?_ ?_
      · rintro j x H0 H3 hj ⟨s3, l3⟩ ⟨rfl, e, he, rfl⟩
        have he' : (sgs L)[j]? = some e := by
          rw [sgs, Array.getElem?_toList]
          exact he
        refine ⟨rfl, _, rfl, _, rfl, _, _, rfl, rfl, chr_len c e, _, l3, ?_, fun b o z => ?_, ?_⟩
        · rw [List.length_map, List.length_take]
          exact small1000 (by omega)
        · rw [upd_ne (ne_of_none z hD)]
          exact s3 _ _ z
        · rw [upd_same, List.take_add_one, he', List.map_append]
          rfl
      · rintro H3 ⟨s3, l3⟩
        have hc' : (sgs L)[i]? = some c := by
          rw [sgs, Array.getElem?_toList]
          exact hc
        have et : (sgs L).take (sgS L).cps.size = sgs L := List.take_of_length_le (by rw [sgs, Array.length_toList]; exact Nat.le_refl _)
        rw [et] at l3
        refine ⟨p, D, _, _, rfl, rfl, s3 _ _ l2, l3, ?_, ⟨_, rfl⟩, fun b o z => ?_, ?_⟩
        · have a1 : (sgs L).length ≤ 4 := by rw [sgs, Array.length_toList]; exact hsz
          have a2 : (((sgs L).take i).flatMap fun c => (sgs L).map fun e => chr1 c ++ chr1 e).length ≤ 100 := by
            rw [List.length_flatMap]
            have : ∀ l : List Nat, (l.map fun c => ((sgs L).map fun e => chr1 c ++ chr1 e).length).sum = l.length * (sgs L).length := by
              intro l
              induction l with
              | nil => simp
              | cons a l ih =>
                rw [List.map_cons, List.sum_cons, ih, List.length_map, List.length_cons, Nat.succ_mul]
                omega
            rw [this, List.length_take]
            have := Nat.mul_le_mul (show min i (sgs L).length ≤ 4 by omega) a1
            omega
          rw [List.length_map, List.length_map]
          exact Nat.le_trans (show _ ≤ 200 by omega) (by decide)
        · rw [upd_ne (fun q => by rw [q] at z; exact absurd z (by rw [n0]; exact fun y => nomatch y))]
          exact s3 _ _ (s2 _ _ z)
        · rw [upd_same, List.take_add_one, hc']
          simp [List.flatMap_append, Function.comp_def]
    · rintro σ H1 ⟨⟨y3, rfl⟩, s2, l2⟩
      have et : (sgs L).take (sgS L).cps.size = sgs L := List.take_of_length_le (by rw [sgs, Array.length_toList]; exact Nat.le_refl _)
      rw [et] at l2
      refine ⟨_, rfl, 1, rfl, -1, rfl, p, _, rfl, SqL.of l2, fun q hq => ?_⟩
      have e9 : cutV (((sgs L).flatMap fun c => (sgs L).map fun e => chr1 c ++ chr1 e).map V.str) none (some (-1)) = (colsS L).map V.str := cols_cut L1 L3
      refine k _ q (s2.trans (same_new hq)) (s2.free hq) ?_
      rw [upd_same]
      exact congrArg (fun z => some (HO.lst z)) e9
end
/-! ### comparisons drawn -/
def rTup (K : PySem.W.Frag) : List V → Hp → VK → Prop := fun xs H Q => ∃ p ys, xs = [.ref p] ∧ ((SqL K H p ys ∧ ∀ l, H l = none → Q (.ref l) (upd H l (.tup ys))) ∨ (SqT K H p ys ∧ Q (.ref p) H))
/-- at v a row of numbers -/
def RowAt (B : Addr → Prop) (H : Hp) (v : V) (r : List Int) : Prop := ∃ q, v = .ref q ∧ ¬ B q ∧ Rd H q (.tup (r.map V.int))
theorem RowAt.keep {B : Addr → Prop} {H H' : Hp} {v : V} {r : List Int} (k : Keep B H H') (h : RowAt B H v r) : RowAt B H' v r := by
  obtain ⟨q, e, nb, hr⟩ := h
  exact ⟨q, e, nb, k.rd nb hr⟩
theorem RowAt.weak {B B' : Addr → Prop} {H : Hp} {v : V} {r : List Int} (k : ∀ b, B' b → B b) (h : RowAt B H v r) : RowAt B' H v r := by
  obtain ⟨q, e, nb, hr⟩ := h
  exact ⟨q, e, fun z => nb (k q z), hr⟩
theorem RowAt.off {B : Addr → Prop} {H : Hp} {p : Addr} {v : V} {r : List Int} (n : H p = none) (h : RowAt B H v r) : RowAt (fun b => B b ∨ b = p) H v r := by
  obtain ⟨q, e, nb, hr⟩ := h
  refine ⟨q, e, fun z => ?_, hr⟩
  rcases z with z | z
  · exact nb z
  · rw [z] at hr
    rcases hr with y | ⟨o, y⟩ <;> (rw [n] at y; cases y)
theorem paired_imp {α β : Type} {F G : α → β → Prop} (f : ∀ a b, F a b → G a b) : ∀ {xs : List α} {ys : List β}, Paired F xs ys → Paired G xs ys
  | _, _, .nil => .nil
  | _, _, .cons h t => .cons (f _ _ h) (paired_imp f t)
theorem paired_at {α β : Type} {F : α → β → Prop} : ∀ {xs : List α} {ys : List β} {i : Nat} {y : β}, Paired F xs ys → ys[i]? = some y → ∃ x, xs[i]? = some x ∧ F x y
  | _, _, _, _, .nil, e => by simp at e
  | _, _, 0, _, .cons h _, e => by
    simp at e
    subst e
    exact ⟨_, rfl, h⟩
  | _, _, i + 1, _, .cons _ t, e => by
    obtain ⟨x, h1, h2⟩ := paired_at (i := i) t (by simpa using e)
    exact ⟨x, by simpa using h1, h2⟩
/-- at v a comparison of L letters -/
structure CAt (B : Addr → Prop) (H : Hp) (v : V) (L : Int) (rws : List (List Int)) (vds : List Int) : Prop where
  at_ : ∃ p pr pv rvs, v = .ref p ∧ ¬ B p ∧ ¬ B pr ∧ ¬ B pv ∧ Rd H p (.tup [.int L, .ref pr, .ref pv]) ∧ Rd H pr (.tup rvs) ∧ Rd H pv (.tup (vds.map V.int)) ∧ Paired (RowAt B H) rvs rws
  L1 : 1 ≤ L
  L3 : L ≤ 3
  r1 : 1 ≤ rws.length
  r61 : rws.length ≤ 90
  rw : ∀ r ∈ rws, r.length = wide L ∧ ∀ x ∈ r, 0 ≤ x ∧ x < (rws.length : Int)
  vl : vds.length = rws.length
  vb : ∀ x ∈ vds, -1 ≤ x ∧ x ≤ 1
section
variable {B : Addr → Prop} {H H' : Hp} {v : V} {L : Int} {rws : List (List Int)} {vds : List Int} {K : PySem.W.Frag}
theorem CAt.keep (k : Keep B H H') (h : CAt B H v L rws vds) : CAt B H' v L rws vds := by
  obtain ⟨⟨p, pr, pv, rvs, e, n1, n2, n3, h1, h2, h3, h4⟩, a, b, c, d, e1, f, g⟩ := h
  exact ⟨⟨p, pr, pv, rvs, e, n1, n2, n3, k.rd n1 h1, k.rd n2 h2, k.rd n3 h3, paired_imp (fun _ _ => RowAt.keep k) h4⟩, a, b, c, d, e1, f, g⟩
theorem CAt.off {p : Addr} (n : H p = none) (h : CAt B H v L rws vds) : CAt (fun b => B b ∨ b = p) H v L rws vds := by
  obtain ⟨⟨q, pr, pv, rvs, e, n1, n2, n3, h1, h2, h3, h4⟩, a, b, c, d, e1, f, g⟩ := h
  have no : ∀ {x : Addr} {o : HO}, ¬ B x → Rd H x o → ¬ (B x ∨ x = p) := fun nb hr z => by
    rcases z with z | z
    · exact nb z
    · rw [z] at hr
      rcases hr with y | ⟨o, y⟩ <;> (rw [n] at y; cases y)
  exact ⟨⟨q, pr, pv, rvs, e, no n1 h1, no n2 h2, no n3 h3, h1, h2, h3, paired_imp (fun _ _ => RowAt.off n) h4⟩, a, b, c, d, e1, f, g⟩
theorem dt_row (h : RowAt B H v r) : Dt B K H v (.tuple (r.map PyData.int)) := by
  obtain ⟨q, rfl, nb, hr⟩ := h
  have di : ∀ ks : List Int, DtAll B K H (ks.map V.int) (ks.map PyData.int) := fun ks => by
    induction ks with
    | nil => exact .nil
    | cons k ks ih => exact .cons (.int k) ih
  exact .tup nb hr (di r)
theorem dt_intsB (ks : List Int) : DtAll B K H (ks.map V.int) (ks.map PyData.int) := by
  induction ks with
  | nil => exact .nil
  | cons k ks ih => exact .cons (.int k) ih
def compD (L : Int) (rws : List (List Int)) (vds : List Int) : PyData := .tuple [.int L, .tuple (rws.map fun r => .tuple (r.map PyData.int)), .tuple (vds.map PyData.int)]
theorem CAt.dt (h : CAt B H v L rws vds) : Dt B K H v (compD L rws vds) := by
  obtain ⟨⟨p, pr, pv, rvs, rfl, n1, n2, n3, h1, h2, h3, h4⟩, _⟩ := h
  have dr : ∀ {xs : List V} {rs : List (List Int)}, Paired (RowAt B H) xs rs → DtAll B K H xs (rs.map fun r => PyData.tuple (r.map PyData.int)) := fun h => by
    induction h with
    | nil => exact .nil
    | cons a _ ih => exact .cons (dt_row a) ih
  exact .tup n1 h1 (.cons (.int L) (.cons (.tup n2 h2 (dr h4)) (.cons (.tup n3 h3 (dt_intsB vds)) .nil)))
theorem nodes_ints : ∀ ks : List Int, nodesAll (ks.map PyData.int) = ks.length
  | [] => rfl
  | k :: ks => by rw [List.map_cons, nodesAll_cons, nodes_ints ks, nodes, List.length_cons]; omega
theorem CAt.nodes (h : CAt B H v L rws vds) : nodes (compD L rws vds) ≤ 2000 := by
  have hw : wide L ≤ 15 := by
    rcases L123 h.L1 h.L3 with e | e | e <;> (rw [e]; decide)
  have hr : ∀ rs : List (List Int), (∀ r ∈ rs, r.length = wide L) → nodesAll (rs.map fun r => PyData.tuple (r.map PyData.int)) ≤ 16 * rs.length := by
    intro rs
    induction rs with
    | nil => intro _; exact Nat.le_refl _
    | cons r rs ih =>
      intro hh
      have := ih fun x hx => hh x (List.mem_cons_of_mem _ hx)
      have e := hh r List.mem_cons_self
      rw [List.map_cons, nodesAll_cons, nodes_tup, nodes_ints, List.length_cons]
      omega
  have h1 := hr rws fun r hr => (h.rw r hr).1
  have h2 := h.r61
  have h3 := h.vl
  rw [compD, nodes_tup, nodesAll_cons, nodesAll_cons, nodesAll_cons, nodesAll_nil, nodes_tup, nodes_tup, nodes_ints, Ver.nodes]
  omega
end
/-! ### _law_comp -/
def B3 (a c R : Addr) : Addr → Prop := fun b => Bd a c b ∨ b = R
def Gk (m : Int) (v : V) : Prop := ∃ k : Int, v = .int k ∧ 0 ≤ k ∧ k < m
theorem gk_list {m : Int} : ∀ {acc : List V}, (∀ v ∈ acc, Gk m v) → ∃ r : List Int, acc = r.map V.int ∧ ∀ x ∈ r, 0 ≤ x ∧ x < m
  | [], _ => ⟨[], rfl, fun x z => absurd z List.not_mem_nil⟩
  | v :: acc, h => by
    obtain ⟨r, e, hr⟩ := gk_list (acc := acc) fun u hu => h u (List.mem_cons_of_mem _ hu)
    obtain ⟨k, rfl, k0, k1⟩ := h v List.mem_cons_self
    refine ⟨k :: r, by rw [e]; rfl, fun x hx => ?_⟩
    rcases List.mem_cons.mp hx with hx | hx
    · rw [hx]
      exact ⟨k0, k1⟩
    · exact hr x hx
def RInv (a c D : Addr) (H : Hp) (L m n0 : Int) (i : Nat) (H' : Hp) : Prop :=
  ∃ (cells : List Int) (n' : Int) (rvs : List V) (rws : List (List Int)), DeckAt a c cells n' H' ∧ n0 ≤ n' ∧ n' ≤ n0 + 20 * i ∧ Keep (Bd a c) H H' ∧ H' D = some (.lst rvs) ∧ Paired (RowAt (B3 a c D) H') rvs rws ∧ rws.length = i ∧ ∀ r ∈ rws, r.length = wide L ∧ ∀ x ∈ r, 0 ≤ x ∧ x < m
theorem rturn {a c D q : Addr} {H H1 H2 : Hp} {L m n0 n1 n2 : Int} {i : Nat} {rvs : List V} {r : List Int} {rws : List (List Int)} {cells2 : List Int} (hD0 : H D = none) (nD : ¬ Bd a c D) (hi : i ≤ 100) (h0 : n0 ≤ n1) (h1 : n1 ≤ n0 + 20 * i) (kp : Keep (Bd a c) H H1) (hD : H1 D = some (.lst rvs))
    (hp : Paired (RowAt (B3 a c D) H1) rvs rws) (hl : rws.length = i) (hr : ∀ r ∈ rws, r.length = wide L ∧ ∀ x ∈ r, 0 ≤ x ∧ x < m) (k2 : Keep (Bd a c) H1 H2) (dk : DeckAt a c cells2 n2 H2) (h2 : n1 ≤ n2) (h3 : n2 ≤ n1 + 20) (hw : r.length = wide L) (hx : ∀ x ∈ r, 0 ≤ x ∧ x < m) (hq : H2 q = none) :
    ∃ rvs', (upd H2 q (.tup (r.map V.int))) D = some (.lst rvs') ∧ rvs'.length < sizeLine ∧ RInv a c D H L m n0 (i + 1) (upd (upd H2 q (.tup (r.map V.int))) D (.lst (rvs' ++ [.ref q]))) := by
  have hD2 := k2 _ _ nD hD
  have nq : D ≠ q := ne_of_none hD2 hq
  have k3 : Keep (B3 a c D) H1 (upd (upd H2 q (.tup (r.map V.int))) D (.lst (rvs ++ [.ref q]))) := fun b o nb z => by
    rw [upd_ne (fun z : b = D => nb (.inr z)), upd_ne (ne_of_none (k2 _ _ (fun z => nb (.inl z)) z) hq)]
    exact k2 _ _ (fun z => nb (.inl z)) z
  have hlv := hp.length
  refine ⟨rvs, by rw [upd_ne nq]; exact hD2, small1000 (by omega), cells2, n2, rvs ++ [.ref q], rws ++ [r], deck_upd (deck_new dk hq) nD, by omega, by omega, fun b o nb z => ?_, upd_same, (paired_imp (fun _ _ => RowAt.keep k3) hp).snoc ⟨q, rfl, ?_, .inl ?_⟩, ?_, fun r2 hr2 => ?_⟩
  · rw [upd_ne (ne_of_none z hD0), upd_ne (ne_of_none (k2 _ _ nb (kp _ _ nb z)) hq)]
    exact k2 _ _ nb (kp _ _ nb z)
  · rintro (z | z)
    · exact deck_off dk hq z
    · exact nq z.symm
  · rw [upd_ne nq.symm, upd_same]
  · rw [List.length_append, hl]
    rfl
  · rcases List.mem_append.mp hr2 with hr2 | hr2
    · exact hr r2 hr2
    · rw [List.mem_singleton.mp hr2]
      exact ⟨hw, hx⟩
section
variable {P : Program} {w : World} {K : PySem.W.Frag} {mg : Str → Option Value} {base : Heap}
def lcScope : Expr → Scope
  | .ListComp _ _ sc _ => sc
  | _ => defScope sComp
def asgVal : Stmt → Expr
  | .Assign _ e _ => e
  | _ => .Constant .none 0 ⟨0, 0, 0, 0⟩
abbrev outerSc : Scope := lcScope (asgVal ((defBody sComp).getD 0 (.Pass ⟨0, 0, 0, 0⟩)))
theorem scComp : FnScope ["_law_deck_here", "_law_letters", "_law_many", "_law_rows", "_law_column", "_law_row"] ["_law_deck_here", "_law_letters", "_law_many"] (defScope sComp) := ⟨rfl, rfl, rfl, by decide +kernel, rfl, by decide +kernel, by decide +kernel⟩
def spComp : Sp := fun vs H Q _ => ∃ (a c : Addr) (cells : List Int) (n L m : Int), vs = [.ref a, .int L, .int m] ∧ DeckAt a c cells n H ∧ 0 ≤ n ∧ n ≤ 900000 ∧ 1 ≤ L ∧ L ≤ 3 ∧ 1 ≤ m ∧ m ≤ 61 ∧
  ∀ (H' : Hp) (cells' : List Int) (n' : Int) (v : V) (rws : List (List Int)) (vds : List Int), DeckAt a c cells' n' H' → n ≤ n' → n' ≤ n + 1500 → Keep (Bd a c) H H' → CAt (Bd a c) H' v L rws vds → (rws.length : Int) = m → Q v H'
theorem ok_comp {f fD fO fC : Addr} {fd fdD fdO fdC : FuncData} (F : Fun K "_law_comp" "_law_comp" sComp f fd) (D : FnOk P w K mg base CX0 1 fD fdD ["_law_deck_here", "_law_most"] spDraw) (FD : Fun K "_law_draw" "_law_draw" sDraw fD fdD) (bD : Binds K fdD ["_law_deck_here", "_law_most"] []) (gD : mg "_law_draw" = some (.ref fD))
    (O : FnOk P w K mg base CX0 2 fO fdO ["_law_deck_here", "_law_items"] (spOne K)) (FO : Fun K "_law_one" "_law_one" sOne fO fdO) (bO : Binds K fdO ["_law_deck_here", "_law_items"] []) (gO : mg "_law_one" = some (.ref fO))
    (CL : FnOk P w K mg base CX0 1 fC fdC ["_law_letters"] spColsL) (FC : Fun K "_law_columns" "_law_columns" sColsL fC fdC) (bC : Binds K fdC ["_law_letters"] []) (gC : mg "_law_columns" = some (.ref fC)) (T : Mg mg) : FnOk P w K mg base CX0 3 f fd ["_law_deck_here", "_law_letters", "_law_many"] spComp := by
  refine F.ok scComp (fun vs H Q E h => ?_) (fun cdv A outer s H vs Q E hr h => ?_)
  · obtain ⟨a, c, cells, n, L, m, rfl, _⟩ := h
    rfl
  · obtain ⟨a, c, cells, n, L, m, rfl, dk, n0, n1, L1, L3, m1, m61, k⟩ := h
    have w15 : wide L ≤ 15 := by
      rcases L123 L1 L3 with e | e | e <;> (rw [e]; decide)
    refine ⟨_, pss_cons (ps_setLc (i := 3) (own := [("_law_row", 5)]) (g := gName 5) (tt := tYes) rfl scComp.nd rfl rfl (sw_true rfl rfl rfl (by decide +kernel)) (pi_range1 (by rfl) T.range (pa_cons (pv 2) pa_nil)) (blkOk_by (N := ["_law_deck_here", "_law_letters", "_law_many", "_law_rows", "_law_column", "_law_row"]) (sc := defScope sComp) (by decide +kernel)) (fun _ _ _ _ _ => pg_name (i := 5) scComp.nd rfl (Or.inl rfl)) (fun _ _ _ _ _ => pts_nil)
        (fun _ _ _ _ _ => pe_callTy (r := rTup K) call_tuple_of (by rfl) T.tuple PyProof.Rows.boot_tuple (pa_cons (pe_lc (wi := iList K _) (own := [("_law_column", 4)]) (g := gName 4) (tt := tYes) rfl scComp.nd (pi_list (pe_call CL (hr.mono (by decide)) (by rfl) gC FC.kp bC .nil pass0 (pa_cons (pv 1) pa_nil))) (blkOk_by (by kernel_rfl)) (fun _ _ _ _ _ => pg_name (i := 4) scComp.nd rfl (Or.inl rfl)) (fun _ _ _ _ _ => pts_nil)
          (fun _ _ _ _ _ => pe_call D (hr.mono (by decide)) (by rfl) gD FD.kp bD .nil pass0 (pa_cons (pv 0) (pa_cons (pv 2) pa_nil)))) pa_nil)))
      (pss_one (ps_ret (pe_tup (pa_cons (pv 1) (pa_cons (pe_callTy (r := rTup K) call_tuple_of (by rfl) T.tuple PyProof.Rows.boot_tuple (pa_cons (pv 3) pa_nil)) (pa_cons (pe_op op_catS (pe_tup (pa_cons (pe_call O hr (by rfl) gO FO.kp bO .nil pass0 (pa_cons (pv 0) (pa_cons (pe_lstA (pa_cons pe_int (pa_cons pe_int (pa_cons pe_int pa_nil)))) pa_nil))) pa_nil))
        (pe_callTy (r := rTup K) call_tuple_of (by rfl) T.tuple PyProof.Rows.boot_tuple (pa_cons (pe_lc (own := [("_law_row", 5)]) (g := gName 5) (tt := tYes) rfl scComp.nd (pi_range1 (by rfl) T.range (pa_cons (pe_op op_sub (pv 2) pe_int) pa_nil)) (blkOk_by (N := ["_law_deck_here", "_law_letters", "_law_many", "_law_rows", "_law_column", "_law_row"]) (sc := defScope sComp) (by decide +kernel)) (fun _ _ _ _ _ => pg_name (i := 5) scComp.nd rfl (Or.inl rfl)) (fun _ _ _ _ _ => pts_nil)
          (fun _ _ _ _ _ => pe_op op_sub (pe_call D (hr.mono (by decide)) (by rfl) gD FD.kp bD .nil pass0 (pa_cons (pv 0) (pa_cons pe_int pa_nil))) pe_int)) pa_nil))) pa_nil)))))), ?_⟩
    refine ⟨_, rfl, m, rfl, by omega, by omega, fun D1 hD => ?_⟩
    refine lc_range (lo := 0) (n := m.toNat) (fun j H' => RInv a c D1 H L m n j H') ⟨cells, n, [], [], deck_new dk hD, Int.le_refl _, by omega, keep_new hD, upd_same, .nil, rfl, fun r z => absurd z List.not_mem_nil⟩ ?_ ?_
    · rintro j H1 hj ⟨cells1, n1', rvs, rws, dk1, h01, h02, kp, hD1, hpr, hl1, hr1⟩
      refine ⟨rfl, _, rfl, L, rfl, L1, L3, fun Hc pc sc nc lc => ⟨pc, rfl, ⟨_, SqL.of lc⟩, fun D2 hD2 => ?_⟩⟩
      have dkc := deck_same sc dk1
      have ncb := deck_off dk1 nc
      refine lc_list (K := K) (a := pc) (xs := (colsS L).map V.str) (CInv a c D2 Hc (Gk m) n1' 1) (cstart dkc hD2) (fun i H' _ q => ?_) ?_ ?_
      · obtain ⟨_, _, _, _, _, _, q, _⟩ := q
        exact SqL.of (q _ _ ncb lc)
      · rintro i x H2 hx ⟨cells2, n2, acc, dk2, g0, g1, k2, hD2', hl2, hG⟩
        have hi := (List.getElem?_eq_some_iff.mp hx).1
        rw [List.length_map, cols_len L1 L3] at hi
        refine ⟨rfl, _, rfl, _, rfl, a, c, cells2, n2, m, rfl, dk2, m1, by omega, by omega, by omega, fun H3 cells3 r r0 r3 dk3 k3 => ?_⟩
        exact cstep hD2 (deck_off dkc hD2) (by omega) g0 g1 k2 hD2' hl2 hG dk3 (by omega) (by omega) k3 ⟨r, rfl, r0, r3⟩
      · rintro H2 ⟨cells2, n2, acc, dk2, g0, g1, k2, hD2', hl2, hG⟩
        rw [List.length_map, cols_len L1 L3] at g1 hl2
        obtain ⟨r, rfl, hr⟩ := gk_list hG
        rw [List.length_map] at hl2
        exact ⟨D2, _, rfl, .inl ⟨SqL.of hD2', fun q hq => rturn hD (deck_off dk hD) (by omega) h01 h02 kp hD1 hpr hl1 hr1 ((Keep.same sc).trans k2) dk2 (by omega) (by omega) hl2 hr hq⟩⟩
    · rintro H1 ⟨cells1, n1', rvs, rws, dk1, h01, h02, kp, hD1, hpr, hl1, hr1⟩
      refine ⟨_, rfl, _, rfl, D1, rvs, rfl, .inl ⟨SqL.of hD1, fun q1 hq1 => ?_⟩⟩
      have dkA := deck_new (o := .tup rvs) dk1 hq1
      have sA := same_new (o := .tup rvs) hq1
      have rA : Rd (upd H1 q1 (.tup rvs)) q1 (.tup rvs) := .inl upd_same
      have nb1 := deck_off dk1 hq1
      refine ⟨_, rfl, by show 3 ≤ sizeLine; decide, fun p2 G2 s2 np2 ns2 lp2 => ?_⟩
      have dkB := deck_same s2 dkA
      refine ⟨a, c, p2, cells1, n1', _, rfl, dkB, by omega, by omega, SqL.of lp2, deck_off dkA np2, List.cons_ne_nil _ _, by decide, fun H3 cells3 x hx dk3 k3 => ?_⟩
      obtain ⟨x0, rfl, hx0⟩ : ∃ x0 : Int, x = .int x0 ∧ -1 ≤ x0 ∧ x0 ≤ 1 := by
        simp only [List.mem_cons, List.not_mem_nil, or_false] at hx
        rcases hx with hx | hx | hx <;> exact ⟨_, hx, by decide, by decide⟩
      refine ⟨by show 1 ≤ sizeLine; decide, fun q2 hq2 => ?_⟩
      have dkC := deck_new (o := .tup [V.int x0]) dk3 hq2
      have nb2 := deck_off dk3 hq2
      have sC := same_new (o := .tup [V.int x0]) hq2
      have rC : Rd (upd H3 q2 (.tup [V.int x0])) q2 (.tup [V.int x0]) := .inl upd_same
      have kC : Keep (Bd a c) H1 (upd H3 q2 (.tup [V.int x0])) := (Keep.same (L2.Same.trans sA s2)).trans (k3.trans (Keep.same sC))
      have kA : Keep (Bd a c) (upd H1 q1 (.tup rvs)) (upd H3 q2 (.tup [V.int x0])) := (Keep.same s2).trans (k3.trans (Keep.same sC))
      refine ⟨_, rfl, m, 1, rfl, rfl, m - 1, rfl, by omega, by omega, fun D3 hD3 => ?_⟩
      generalize hG4 : upd H3 q2 (.tup [V.int x0]) = G4 at *
      refine lc_range (lo := 0) (n := (m - 1).toNat) (CInv a c D3 G4 (fun v => ∃ k : Int, v = .int k ∧ -1 ≤ k ∧ k ≤ 1) (n1' + 1) 1) (cstart dkC hD3) ?_ ?_
      · rintro i H2 hi ⟨cells2, n2, acc, dk2, g0, g1, k2, hD2', hl2, hG⟩
        refine ⟨rfl, _, rfl, a, c, cells2, n2, 3, rfl, dk2, by decide, by decide, by omega, by omega, fun H5 cells5 r r0 r3 dk5 k5 => ⟨r, 1, rfl, rfl, ?_⟩⟩
        exact cstep hD3 (deck_off dkC hD3) (by omega) g0 g1 k2 hD2' hl2 hG dk5 (by omega) (by omega) k5 ⟨r - 1, rfl, by omega, by omega⟩
      · rintro H2 ⟨cells2, n2, acc, dk2, g0, g1, k2, hD2', hl2, hG⟩
        obtain ⟨ks, rfl, hk⟩ : ∃ ks : List Int, acc = ks.map V.int ∧ ∀ x ∈ ks, -1 ≤ x ∧ x ≤ 1 := by
          clear hl2 hD2'
          induction acc with
          | nil => exact ⟨[], rfl, fun x z => absurd z List.not_mem_nil⟩
          | cons v acc ih =>
            obtain ⟨ks, e, h1⟩ := ih fun u hu => hG u (List.mem_cons_of_mem _ hu)
            obtain ⟨y, e2, h2⟩ := hG v List.mem_cons_self
            refine ⟨y :: ks, by rw [e, e2]; rfl, fun x hx => ?_⟩
            rcases List.mem_cons.mp hx with hx | hx
            · rw [hx]
              exact h2
            · exact h1 x hx
        rw [List.length_map] at hl2
        refine ⟨D3, _, rfl, .inl ⟨SqL.of hD2', fun q3 hq3 => ?_⟩⟩
        have s5 := same_new (o := .tup (ks.map V.int)) hq3
        have nb3 := deck_off dk2 hq3
        refine ⟨q2, q3, _, _, rfl, rfl, (k2.trans (Keep.same s5)).rd nb2 rC, .inl upd_same, ?_, fun q4 H6 s6 hq6 w6 => ?_⟩
        · rw [List.length_map, List.length_singleton, hl2]
          exact sz_of (by omega)
        · have nb4 : ¬ Bd a c q4 := by
            rcases w6 with e | e | e
            · rw [e]
              exact nb2
            · rw [e]
              exact nb3
            · exact deck_off (deck_new dk2 hq3) e
          have dk6 := deck_same s6 (deck_new (o := .tup (ks.map V.int)) dk2 hq3)
          refine ⟨by show 3 ≤ sizeLine; decide, fun qf hqf => ?_⟩
          have s7 := same_new (o := .tup [.int L, .ref q1, .ref q4]) hqf
          have k47 : Keep (Bd a c) G4 (upd H6 qf (.tup [.int L, .ref q1, .ref q4])) := k2.trans (Keep.same (L2.Same.trans s5 (L2.Same.trans s6 s7)))
          refine k _ cells2 n2 (.ref qf) rws (x0 :: ks) (deck_new dk6 hqf) (by omega) (by omega) ((kp.trans kC).trans k47) ⟨⟨qf, q1, q4, rvs, rfl, deck_off dk6 hqf, nb1, nb4, .inl upd_same, (kA.trans k47).rd nb1 rA, same_rd s7 hq6, ?_⟩, L1, L3, by omega, by omega, fun r hr => ?_, ?_, fun y hy => ?_⟩ ?_
          · exact paired_imp (fun _ _ h => RowAt.keep (kC.trans k47) (RowAt.weak (fun b z => .inl z) h)) hpr
          · obtain ⟨e1, e2⟩ := hr1 r hr
            refine ⟨e1, fun x hx => ?_⟩
            have := e2 x hx
            omega
          · rw [List.length_cons, hl2]
            omega
          · rcases List.mem_cons.mp hy with hy | hy
            · rw [hy]
              exact hx0
            · exact hk y hy
          · omega
end
/-! ### the program's columns, rows, comparisons -/
section
variable {P : Program} {w : World} {K : PySem.W.Frag} {mg : Str → Option Value} {base : Heap}
theorem scCols : FnScope ["letters", "pairs", "first", "second"] ["letters"] (defScope sCols) := ⟨rfl, rfl, rfl, by decide +kernel, rfl, by decide +kernel, by decide +kernel⟩
/-- n new pairs of numbers at xs, in order -/
def ColsAt (N : Nat) (H H' : Hp) (xs : List V) (n : Nat) : Prop := xs.length = n ∧ ∀ k, k < n → ∃ q, xs[k]? = some (.ref q) ∧ H q = none ∧ H' q = some (.tup [.int ((k / (N + 1) : Nat) : Int), .int ((k % (N + 1) : Nat) : Int)])
theorem colsAt_add {N i j n : Nat} {H H2 : Hp} {p q : Addr} {ys : List V} (s : Same H H2) (h : ColsAt N H H2 ys n) (hp : H2 p = some (.lst ys)) (hq : H2 q = none) (hj : j < N + 1) (e : n = i * (N + 1) + j) :
    ColsAt N H (upd (upd H2 q (.tup [.int (0 + i), .int (0 + j)])) p (.lst (ys ++ [V.ref q]))) (ys ++ [V.ref q]) (n + 1) := by
  refine ⟨by rw [List.length_append, h.1, List.length_singleton], fun k hk => ?_⟩
  by_cases hlt : k < n
  · obtain ⟨r, e1, e2, e3⟩ := h.2 k hlt
    refine ⟨r, by rw [List.getElem?_append_left (by rw [h.1]; exact hlt)]; exact e1, e2, ?_⟩
    rw [upd_ne (fun z => by rw [z, hp] at e3; cases e3), upd_ne (ne_of_none e3 hq)]
    exact e3
  · have hk' : k = n := by omega
    subst hk'
    refine ⟨q, by rw [List.getElem?_append_right (by rw [h.1]; exact Nat.le_refl _), h.1, Nat.sub_self]; rfl, s.free hq, ?_⟩
    rw [upd_ne (fun z => by rw [z, hp] at hq; cases hq), upd_same]
    have d1 : k / (N + 1) = i := by
      rw [e, Nat.mul_comm, Nat.mul_add_div (by omega), Nat.div_eq_of_lt hj, Nat.add_zero]
    have d2 : k % (N + 1) = j := by
      rw [e, Nat.mul_comm, Nat.mul_add_mod, Nat.mod_eq_of_lt hj]
    rw [d1, d2, Int.zero_add, Int.zero_add]
def spCols : Sp := fun vs H Q _ => ∃ N : Nat, vs = [.int (N : Int)] ∧ 1 ≤ N ∧ N ≤ 3 ∧ ∀ (H' : Hp) (p : Addr) (xs : List V), Same H H' → H p = none → H' p = some (.lst xs) → ColsAt N H H' xs (N * (N + 1) + N) → Q (.ref p) H'
/-- how many pairs there are ahead of the pair (i, j) -/
def ahead (L : Nat) (i j : Nat) : Nat := i * (L + 1) + j - (if i = L ∧ j = L + 1 ∨ i = L + 1 then 1 else 0)
theorem ok_cols {f : Addr} {fd : FuncData} (F : Fun K "columns" "columns" sCols f fd) (T : Mg mg) : FnOk P w K mg base CX0 1 f fd ["letters"] spCols := by
  refine F.ok scCols (fun vs H Q E h => ?_) (fun cdv A outer s H vs Q E hr h => ?_)
  · obtain ⟨N, rfl, _⟩ := h
    rfl
  · obtain ⟨N, rfl, L1, L3, k⟩ := h
    refine ⟨_, pss_cons (ps_set (i := 1) scCols.nd rfl (.inl rfl) (pe_lstA pa_nil))
      (pss_cons (ps_for PassesOwn.never rfl (pi_range1 (by rfl) T.range (pa_cons (pe_op op_add (pv 0) pe_int) pa_nil)) (pg_name (i := 2) scCols.nd rfl (.inl rfl))
        (pss_one (ps_for PassesOwn.never rfl (pi_range1 (by rfl) T.range (pa_cons (pe_op op_add (pv 0) pe_int) pa_nil)) (pg_name (i := 3) scCols.nd rfl (.inl rfl))
          (pss_one (ps_if (PW.pt (pw_or (pt_cmpR op_lt (pv 2) (pv 0) (nomark _)) (pw_or1 (pt_cmpR op_lt (pv 3) (pv 0) (nomark _)))))
            (pss_one (ps_expr (pe_bm PySem.F.plainAttrs_list PySem.F.slot_list_append PySem.F.type_list_append mt_append (pv 1) (pa_cons (pe_tup (pa_cons (pv 2) (pa_cons (pv 3) pa_nil))) pa_nil)))) pss_nil)))))
      (pss_one (ps_ret (pv 1)))), ?_⟩
    refine ⟨by show 0 ≤ sizeLine; decide, fun p G s0 n0 _ l0 => ?_⟩
    refine ⟨_, rfl, (N : Int), 1, rfl, rfl, (N : Int) + 1, rfl, by omega, by omega, for_range (lo := 0) (n := ((N : Int) + 1).toNat) (fun i σ H' => (∃ y2 y3, σ = [some (V.int N), some (V.ref p), y2, y3]) ∧ Same H H' ∧ ∃ xs : List V, H' p = some (.lst xs) ∧ ColsAt N H H' xs (ahead N i 0))
      ⟨⟨none, none, rfl⟩, s0, [], l0, by simp [ahead], fun k hk => absurd hk (by simp [ahead])⟩ ?_ ?_⟩
    · rintro i σ H1 hi ⟨⟨y2, y3, rfl⟩, s1, xs, l1, e1⟩
      refine ⟨_, rfl, (N : Int), 1, rfl, rfl, (N : Int) + 1, rfl, by omega, by omega, for_range (lo := 0) (n := ((N : Int) + 1).toNat) (fun j σ H' => (∃ y3, σ = [some (V.int N), some (V.ref p), some (V.int (0 + i)), y3]) ∧ Same H H' ∧ ∃ xs : List V, H' p = some (.lst xs) ∧ ColsAt N H H' xs (ahead N i j))
        ⟨⟨y3, rfl⟩, s1, xs, l1, e1⟩ ?_ ?_⟩
      · rintro j σ H2 hj ⟨⟨y3, rfl⟩, s2, ys, l2, e2⟩
        have app : (i < N ∨ j < N) → ∀ (q : Addr), H2 q = none → (upd H2 q (.tup [.int (0 + i), .int (0 + j)])) p = some (.lst ys) ∧ ys.length < sizeLine ∧ Same H (upd (upd H2 q (.tup [.int (0 + i), .int (0 + j)])) p (.lst (ys ++ [.ref q]))) ∧ ColsAt N H (upd (upd H2 q (.tup [.int (0 + i), .int (0 + j)])) p (.lst (ys ++ [.ref q]))) (ys ++ [V.ref q]) (ahead N i (j + 1)) := fun h q hq => by
          refine ⟨same_new hq _ _ l2, ?_, fun b o z => ?_, ?_⟩
          · rw [e2.1]
            refine Nat.lt_of_le_of_lt (show _ ≤ 100 from ?_) (by decide)
            unfold ahead
            have : i * (N + 1) ≤ 4 * 4 := Nat.mul_le_mul (by omega) (by omega)
            omega
          · rw [upd_ne (ne_of_none z n0), upd_ne (ne_of_none (s2 _ _ z) hq)]
            exact s2 _ _ z
          · have a1 : ahead N i j = i * (N + 1) + j := by
              unfold ahead
              rw [if_neg (by omega)]
              rfl
            have a2 : ahead N i (j + 1) = ahead N i j + 1 := by
              unfold ahead
              rw [if_neg (by omega), if_neg (by omega)]
              omega
            rw [a2]
            exact colsAt_add s2 e2 l2 hq (by omega) a1
        refine ⟨_, rfl, _, rfl, 0 + (i : Int), (N : Int), rfl, rfl, _, rfl, ite2 (fun h1 => ?_) (fun h1 => ?_)⟩
        · have h1 := of_decide_eq_true h1
          refine ⟨_, rfl, .inl ⟨rfl, _, SqL.of l2⟩, _, rfl, _, rfl, by show 2 ≤ sizeLine; decide, fun q hq => ?_⟩
          obtain ⟨a1, a2, a3, a4⟩ := app (by omega) q hq
          exact ⟨p, ys, .ref q, rfl, rfl, a1, a2, ⟨_, rfl⟩, a3, _, upd_same, a4⟩
        · have h1 : ¬ (0 + (i : Int) < N) := fun z => h1 (decide_eq_true z)
          refine ⟨_, rfl, _, rfl, 0 + (j : Int), (N : Int), rfl, rfl, _, rfl, ite2 (fun h2 => ?_) (fun h2 => ?_)⟩
          · have h2 := of_decide_eq_true h2
            refine ⟨_, rfl, .inl ⟨rfl, _, SqL.of l2⟩, _, rfl, _, rfl, by show 2 ≤ sizeLine; decide, fun q hq => ?_⟩
            obtain ⟨a1, a2, a3, a4⟩ := app (by omega) q hq
            exact ⟨p, ys, .ref q, rfl, rfl, a1, a2, ⟨_, rfl⟩, a3, _, upd_same, a4⟩
          · have h2 : ¬ (0 + (j : Int) < N) := fun z => h2 (decide_eq_true z)
            refine ⟨⟨_, rfl⟩, s2, ys, l2, ?_⟩
            have a1 : ahead N i j = ahead N i (j + 1) := by
              unfold ahead
              rw [if_neg (by omega), if_pos (by omega)]
              omega
            rw [← a1]
            exact e2
      · rintro σ H2 ⟨⟨y3, rfl⟩, s2, ys, l2, e2⟩
        refine ⟨⟨_, _, rfl⟩, s2, ys, l2, ?_⟩
        have a1 : ahead N i ((N : Int) + 1).toNat = ahead N (i + 1) 0 := by
          unfold ahead
          rw [show ((N : Int) + 1).toNat = N + 1 by omega, Nat.add_mul, Nat.one_mul]
          by_cases h : i = N
          · rw [if_pos (.inl ⟨h, rfl⟩), if_pos (.inr (by omega))]
            omega
          · rw [if_neg (by omega), if_neg (by omega)]
            omega
        rw [← a1]
        exact e2
    · rintro σ H1 ⟨⟨y2, y3, rfl⟩, s1, xs, l1, e1⟩
      refine ⟨_, rfl, k H1 p xs s1 n0 l1 ?_⟩
      have a1 : ahead N ((N : Int) + 1).toNat 0 = N * (N + 1) + N := by
        unfold ahead
        rw [show ((N : Int) + 1).toNat = N + 1 by omega, if_pos (.inr rfl), Nat.add_mul]
        omega
      rw [← a1]
      exact e1
/-- the row that a column leads to -/
def rk (rs : List Int) (i j : Nat) : Int := if i = rs.length then 1 else if j = rs.length then 2 else if rs.getD i 0 = rs.getD j 0 then 0 else if rs.getD i 0 < rs.getD j 0 then 1 else 2
def spRanked (K : PySem.W.Frag) : Sp := fun vs H Q _ => ∃ (i j : Nat) (l : Addr) (rs : List Int), vs = [.int (i : Int), .int (j : Int), .ref l] ∧ SqT K H l (rs.map V.int) ∧ i ≤ rs.length ∧ j ≤ rs.length ∧ Q (.int (rk rs i j)) H
theorem scRanked : FnScope ["first", "second", "ranks"] ["first", "second", "ranks"] (defScope sRanked) := ⟨rfl, rfl, rfl, by decide +kernel, rfl, by decide +kernel, by decide +kernel⟩
def rLen (K : PySem.W.Frag) : List V → Hp → VK → Prop := fun xs H Q => ∃ p ys, xs = [.ref p] ∧ (SqL K H p ys ∨ SqT K H p ys) ∧ Q (.int ys.length) H
theorem at_ints {rs : List Int} {i : Nat} (h : i < rs.length) : atI (rs.map V.int) (i : Int) = some (V.int (rs.getD i 0)) := atI_nat (by
  rw [List.getElem?_map, List.getD_eq_getElem?_getD, List.getElem?_eq_getElem h]
  rfl)
theorem dec_int {a b : Int} : decide (V.int a = V.int b) = decide (a = b) := by
  by_cases h : a = b
  · rw [h, decide_eq_true rfl, decide_eq_true rfl]
  · rw [decide_eq_false h, decide_eq_false fun z => h (V.int.inj z)]
theorem ok_ranked {f : Addr} {fd : FuncData} (F : Fun K "ranked" "ranked" sRanked f fd) (T : Mg mg) : FnOk P w K mg base CX0 1 f fd ["first", "second", "ranks"] (spRanked K) := by
  refine F.ok scRanked (fun vs H Q E h => ?_) (fun cdv A outer s H vs Q E hr h => ?_)
  · obtain ⟨i, j, l, rs, rfl, _⟩ := h
    rfl
  · obtain ⟨i, j, l, rs, rfl, hl, hi, hj, k⟩ := h
    refine ⟨_, pss_cons (ps_if (pt_cmpR op_eq (pv 0) (pe_callB (r := rLen K) call_len_seq (by rfl) T.len PySem.boot_len (pa_cons (pv 2) pa_nil)) (nomark _)) (pss_one (ps_ret pe_int)) pss_nil)
      (pss_cons (ps_if (pt_cmpR op_eq (pv 1) (pe_callB (r := rLen K) call_len_seq (by rfl) T.len PySem.boot_len (pa_cons (pv 2) pa_nil)) (nomark _)) (pss_one (ps_ret pe_int)) pss_nil)
      (pss_cons (ps_if (pt_cmpR op_eq (pe_ix (r := rIxT K) ix_tup (pv 2) (pv 0) (fun _ _ => rfl)) (pe_ix (r := rIxT K) ix_tup (pv 2) (pv 1) (fun _ _ => rfl)) (nomark _)) (pss_one (ps_ret pe_int)) pss_nil)
      (pss_one (ps_ret (pe_ifExp (pt_cmpR op_lt (pe_ix (r := rIxT K) ix_tup (pv 2) (pv 0) (fun _ _ => rfl)) (pe_ix (r := rIxT K) ix_tup (pv 2) (pv 1) (fun _ _ => rfl)) (nomark _)) pe_int pe_int))))), ?_⟩
    refine ⟨_, rfl, _, rfl, l, _, rfl, .inr hl, rfl, _, rfl, ite2 (fun h1 => ?_) fun h1 => ?_⟩
    · rw [dec_int, List.length_map] at h1
      have h1 := of_decide_eq_true h1
      have e : rk rs i j = 1 := if_pos (by omega)
      rw [e] at k
      exact k
    · rw [dec_int, List.length_map] at h1
      have h1 : ¬ ((i : Int) = (rs.length : Int)) := fun z => h1 (decide_eq_true z)
      have n1 : i ≠ rs.length := by omega
      refine ⟨_, rfl, _, rfl, l, _, rfl, .inr hl, rfl, _, rfl, ite2 (fun h2 => ?_) fun h2 => ?_⟩
      · rw [dec_int, List.length_map] at h2
        have h2 := of_decide_eq_true h2
        have e : rk rs i j = 2 := (if_neg n1).trans (if_pos (by omega))
        rw [e] at k
        exact k
      · rw [dec_int, List.length_map] at h2
        have h2 : ¬ ((j : Int) = (rs.length : Int)) := fun z => h2 (decide_eq_true z)
        have n2 : j ≠ rs.length := by omega
        have a1 := at_ints (rs := rs) (i := i) (by omega)
        have a2 := at_ints (rs := rs) (i := j) (by omega)
        have ek : rk rs i j = if rs.getD i 0 = rs.getD j 0 then 0 else if rs.getD i 0 < rs.getD j 0 then 1 else 2 := (if_neg n1).trans (if_neg n2)
        rw [ek] at k
        refine ⟨_, rfl, _, rfl, l, _, _, _, rfl, rfl, hl, a1, _, rfl, _, rfl, l, _, _, _, rfl, rfl, hl, a2, rfl, _, rfl, ite2 (fun h3 => ?_) fun h3 => ?_⟩
        · rw [dec_int] at h3
          rw [if_pos (of_decide_eq_true h3)] at k
          exact k
        · rw [dec_int] at h3
          rw [if_neg fun z => h3 (decide_eq_true z)] at k
          refine ⟨_, rfl, _, rfl, l, _, _, _, rfl, rfl, hl, a1, _, rfl, _, rfl, l, _, _, _, rfl, rfl, hl, a2, _, _, rfl, rfl, _, rfl, ite2 (fun h4 => ?_) fun h4 => ?_⟩
          · rw [if_pos (of_decide_eq_true h4)] at k
            exact k
          · rw [if_neg fun z => h4 (decide_eq_true z)] at k
            exact k
end
/-! ### a text of two signs, unpacked -/
section
variable {X : Cx} {pos : Pos}
def gTwo (t : TGs) : TG := fun v σ H Q => ∃ c e : Nat, v = .str ⟨#[c, e]⟩ ∧ c < 128 ∧ e < 128 ∧ t [.str ⟨#[c]⟩, .str ⟨#[e]⟩] σ H Q
theorem pg_two {es : List Expr} {k : Nat} {t : TGs} (hc : X.calm = true) (h : PGs X es t)
    (hn : (assignEach es X.env).length = 2 := by rfl) (hst : (assignEach es X.env).findIdx? (·.1) = none := by rfl) : PG X (.Tuple es k pos) (gTwo t) := by
  refine ⟨fun pins s σ H v u Q I r hw => ?_⟩
  obtain ⟨c, e, rfl, hc1, he1, hw⟩ := hw
  obtain ⟨tk, rfl⟩ := r
  have ha : (⟨#[c, e]⟩ : Str).cps.all (· < 128) = true := by simp [hc1, he1]
  rw [PyProof.Rows.assign_Tuple]
  refine wpAny_bind (wpAny_standAt ?_)
  unfold unpack
  rw [hn, hst]
  refine wpAny_bind (wpAny_holding ?_)
  unfold unpackItems
  refine wpAny_bind ?_
  unfold notIterableAtAll
  refine wpAny_bind (wpAny_specialOf (T := "str") (show s.TypeIs (.str ⟨#[c, e]⟩ tk) "str" from rfl) PySem.F.slot_str_iter.lookup ?_)
  refine wpAny_pure ?_
  simp only [Bool.false_eq_true, if_false]
  refine wpAny_bind (wpAny_holding (wpAny_pyIter_ascii ha ?_))
  have W := Walks.strAscii (prog := X.prog) (w := X.w) (A := X.A) (I.ok.hd hc) s.heap.objs.size ⟨#[c, e]⟩ tk
  have k0 : ∀ b o, s.heap.get? b = some o → (s.heap.push { cls := .type "str_ascii_iterator", data := .fields #[.str ⟨#[c, e]⟩ tk, .int 0 0] }).get? b = some o := fun b o q => Heap.get?_push_of_some _ q
  have old : ∀ {b : Addr} {o : Obj}, s.heap.get? b = some o → b ∉ [s.heap.objs.size] := fun q z => absurd (List.mem_singleton.mp z) (Nat.ne_of_lt (Heap.lt_size q))
  refine wpAny_bind (wpAny_holding ?_)
  show wpAny _ _ (pyNext (.ref s.heap.objs.size) >>= _) _ _ _
  refine wpAny_bind (W.item 0 { s with heap := s.heap.push _ } _ _ (show 0 < 2 by decide) ⟨_, Heap.get?_push_size _ rfl, rfl, rfl⟩ fun v1 g1 t1 hv1 st1 k1 => ?_)
  show wpAny _ _ (holding _ (pyNext (.ref s.heap.objs.size) >>= _) >>= _) _ _ _
  refine wpAny_bind (wpAny_holding (wpAny_bind (W.item 1 { s with heap := g1, toks := t1 } _ _ (show 1 < 2 by decide) st1 fun v2 g2 t2 hv2 st2 k2 => ?_)))
  show wpAny _ _ (holding _ (pure []) >>= _) _ _ _
  refine wpAny_bind (wpAny_holding (wpAny_pure (wpAny_pure (wpAny_pure ?_))))
  rw [if_neg (by simp)]
  refine wpAny_bind (wpAny_holding (wpAny_pyNext_ascii_end (I.ok.hd hc) st2 rfl fun g3 k3 => ?_))
  simp only [Option.isSome_none, Bool.false_eq_true, if_false]
  refine wpAny_pure ?_
  obtain ⟨d1, u1, e1, rfl⟩ := hv1
  obtain ⟨d2, u2, e2, rfl⟩ := hv2
  have q1 : d1 = c := (Option.some.inj e1).symm
  have q2 : d2 = e := (Option.some.inj e2).symm
  subst q1
  subst q2
  have I1 : Inv X pins σ H { s with heap := g3, toks := t2 } := I.kept fun b o q => k3 b o (Nat.ne_of_lt (Heap.lt_size q)) (k2 b o (old q) (k1 b o (old q) (k0 b o q)))
  have r1 : RelV (.str ⟨#[d1]⟩) (Value.str ⟨#[d1]⟩ u1) := ⟨u1, rfl⟩
  have r2 : RelV (.str ⟨#[d2]⟩) (Value.str ⟨#[d2]⟩ u2) := ⟨u2, rfl⟩
  exact h.run pins _ σ H _ _ Q I1 (.cons r1 (.cons r2 .nil)) hw
end
/-! ### by_ranks, by_length, turned -/
def Old (H : Hp) : Addr → Prop := fun b => H b ≠ none
theorem old_new {H H' : Hp} {p : Addr} (s : Same H H') (h : H' p = none) : ¬ Old H p := fun z => z (s.free h)
theorem CAt.weak {B B' : Addr → Prop} {H : Hp} {v : V} {L : Int} {rws : List (List Int)} {vds : List Int} (k : ∀ b, B' b → B b) (h : CAt B H v L rws vds) : CAt B' H v L rws vds := by
  obtain ⟨⟨q, pr, pv, rvs, e, n1, n2, n3, h1, h2, h3, h4⟩, a, b, c, d, e1, f, g⟩ := h
  exact ⟨⟨q, pr, pv, rvs, e, fun z => n1 (k _ z), fun z => n2 (k _ z), fun z => n3 (k _ z), h1, h2, h3, paired_imp (fun _ _ => RowAt.weak k) h4⟩, a, b, c, d, e1, f, g⟩
def wd (N : Nat) : Nat := N * (N + 1) + N
theorem wide_wd {N : Nat} (h : 1 ≤ N) (h3 : N ≤ 3) : wide (N : Int) = wd N := by
  have : N = 1 ∨ N = 2 ∨ N = 3 := by omega
  rcases this with rfl | rfl | rfl <;> decide
theorem wd_le {N : Nat} (h : 1 ≤ N) (h3 : N ≤ 3) : 3 ≤ wd N ∧ wd N ≤ 15 := by
  have : N = 1 ∨ N = 2 ∨ N = 3 := by omega
  rcases this with rfl | rfl | rfl <;> decide
def rankRow (N : Nat) (rs : List Int) : List Int := (List.range (wd N)).map fun k => rk rs (k / (N + 1)) (k % (N + 1))
def rankRws (N : Nat) (rs : List Int) : List (List Int) := [rankRow N rs, List.replicate (wd N) 1, List.replicate (wd N) 2]
theorem rk_in (rs : List Int) (i j : Nat) : 0 ≤ rk rs i j ∧ rk rs i j < 3 := by
  unfold rk
  repeat' split
  all_goals decide
theorem col_le {N k : Nat} (h : k < wd N) : k / (N + 1) ≤ N ∧ k % (N + 1) ≤ N := by
  refine ⟨?_, by have := Nat.mod_lt k (show 0 < N + 1 by omega); omega⟩
  have : k / (N + 1) < N + 1 := Nat.div_lt_of_lt_mul (by unfold wd at h; rw [Nat.mul_comm, Nat.succ_mul, Nat.mul_succ]; rw [Nat.mul_succ] at h; omega)
  omega
theorem rank_rws {N : Nat} {rs : List Int} (h : 1 ≤ N) (h3 : N ≤ 3) : ∀ r ∈ rankRws N rs, r.length = wide (N : Int) ∧ ∀ x ∈ r, 0 ≤ x ∧ x < ((rankRws N rs).length : Int) := fun r hr => by
  rw [wide_wd h h3]
  simp only [rankRws, List.mem_cons, List.not_mem_nil, or_false] at hr
  rcases hr with rfl | rfl | rfl
  · refine ⟨by rw [rankRow, List.length_map, List.length_range], fun x hx => ?_⟩
    obtain ⟨k, _, rfl⟩ := List.mem_map.mp hx
    exact rk_in _ _ _
  · refine ⟨List.length_replicate, fun x hx => ?_⟩
    rw [List.eq_of_mem_replicate hx]
    exact ⟨by decide, by show (1 : Int) < 3; decide⟩
  · refine ⟨List.length_replicate, fun x hx => ?_⟩
    rw [List.eq_of_mem_replicate hx]
    exact ⟨by decide, by show (2 : Int) < 3; decide⟩
theorem flat_one (x : V) (n : Nat) : (List.replicate n [x]).flatten = List.replicate n x := by
  induction n with
  | zero => rfl
  | succ n ih => rw [List.replicate_succ, List.flatten_cons, ih]; rfl
section
variable {P : Program} {w : World} {K : PySem.W.Frag} {mg : Str → Option Value} {base : Heap}
theorem scByRanks : FnScope ["letters", "ranks", "first_row", "first", "second"] ["letters", "ranks"] (defScope sByRanks) := ⟨rfl, rfl, rfl, by decide +kernel, rfl, by decide +kernel, by decide +kernel⟩
def spByRanks (K : PySem.W.Frag) : Sp := fun vs H Q _ => ∃ (N : Nat) (l : Addr) (rs : List Int), vs = [.int (N : Int), .ref l] ∧ 1 ≤ N ∧ N ≤ 3 ∧ SqT K H l (rs.map V.int) ∧ rs.length = N ∧ ∀ H' v, Same H H' → CAt (Old H) H' v N (rankRws N rs) [0, -1, 1] → Q v H'
theorem ok_byRanks {f fC fR : Addr} {fd fdC fdR : FuncData} (F : Fun K "by_ranks" "by_ranks" sByRanks f fd)
    (C : FnOk P w K mg base CX0 1 fC fdC ["letters"] spCols) (FC : Fun K "columns" "columns" sCols fC fdC) (bC : Binds K fdC ["letters"] []) (gC : mg "columns" = some (.ref fC))
    (R : FnOk P w K mg base CX0 1 fR fdR ["first", "second", "ranks"] (spRanked K)) (FR : Fun K "ranked" "ranked" sRanked fR fdR) (bR : Binds K fdR ["first", "second", "ranks"] []) (gR : mg "ranked" = some (.ref fR)) (T : Mg mg) :
    FnOk P w K mg base CX0 2 f fd ["letters", "ranks"] (spByRanks K) := by
  refine F.ok scByRanks (fun vs H Q E h => ?_) (fun cdv A outer s H vs Q E hr h => ?_)
  · obtain ⟨N, l, rs, rfl, _⟩ := h
    rfl
  · obtain ⟨N, l, rs, rfl, N1, N3, hl, e, k⟩ := h
    obtain ⟨w3, w15⟩ := wd_le N1 N3
    refine ⟨_, pss_cons (ps_set (i := 2) scByRanks.nd rfl (.inl rfl) (pe_callTy (r := rTup K) call_tuple_of (by rfl) T.tuple PyProof.Rows.boot_tuple (pa_cons (pe_lc (wi := iList K _) (own := [("first", 3), ("second", 4)]) (g := gTup K 2 (gCons (gName 3) (gCons (gName 4) gNil))) (tt := tYes) rfl scByRanks.nd (pi_list (pe_call C hr (by rfl) gC FC.kp bC .nil pass0 (pa_cons (pv 0) pa_nil))) (blkOk_by (N := ["letters", "ranks", "first_row", "first", "second"]) (sc := defScope sByRanks) (by decide +kernel))
          (fun _ _ _ _ _ => pg_tup rfl (pgs_cons (pg_name (i := 3) scByRanks.nd rfl (Or.inl rfl)) (pgs_cons (pg_name (i := 4) scByRanks.nd rfl (Or.inl rfl)) pgs_nil))) (fun _ _ _ _ _ => pts_nil)
          (fun _ _ _ _ _ => pe_call R hr (by rfl) gR FR.kp bR .nil pass0 (pa_cons (pv 3) (pa_cons (pv 4) (pa_cons (pv 1) pa_nil))))) pa_nil)))
      (pss_one (ps_ret (pe_tup (pa_cons (pv 0) (pa_cons (pe_tup (pa_cons (pv 2) (pa_cons (pe_op op_repS (pe_tup (pa_cons pe_int pa_nil)) (pe_callB (r := rLen K) call_len_seq (by rfl) T.len PySem.boot_len (pa_cons (pv 2) pa_nil))) (pa_cons (pe_op op_repS (pe_tup (pa_cons pe_int pa_nil)) (pe_callB (r := rLen K) call_len_seq (by rfl) T.len PySem.boot_len (pa_cons (pv 2) pa_nil))) pa_nil))))
        (pa_cons (pe_tup (pa_cons pe_int (pa_cons (pe_un un_neg pe_int) (pa_cons pe_int pa_nil)))) pa_nil)))))), ?_⟩
    refine ⟨_, rfl, N, rfl, N1, N3, fun Hc pc xs sc nc lc hx => ⟨pc, rfl, ⟨_, SqL.of lc⟩, fun D hD => ?_⟩⟩
    have hlc := same_seqT sc hl
    have eN : xs.length = wd N := hx.1
    refine lc_list (K := K) (a := pc) (xs := xs) (fun j H' => Same Hc H' ∧ H' D = some (.lst (((rankRow N rs).take j).map V.int))) ⟨same_new hD, upd_same⟩ (fun i H' _ q => SqL.of (q.1 _ _ lc)) ?_ ?_
    · rintro i x H2 hxi ⟨s2, l2⟩
      have hi : i < wd N := eN ▸ (List.getElem?_eq_some_iff.mp hxi).1
      obtain ⟨q, e1, _, e3⟩ := hx.2 i hi
      rw [e1] at hxi
      cases hxi
      obtain ⟨c1, c2⟩ := col_le hi
      refine ⟨q, _, rfl, SqT.of (s2 _ _ e3), rfl, _, _, rfl, _, _, rfl, rfl, rfl, _, rfl, _, rfl, _, rfl, i / (N + 1), i % (N + 1), l, rs, rfl, same_seqT s2 hlc, by omega, by omega, _, l2, ?_, ?_, ?_⟩
      · rw [List.length_map, List.length_take]
        exact small1000 (by omega)
      · exact fun b o z => by rw [upd_ne (ne_of_none z hD)]; exact s2 _ _ z
      · have er : (rankRow N rs)[i]? = some (rk rs (i / (N + 1)) (i % (N + 1))) := by
          rw [rankRow, List.getElem?_map, List.getElem?_range hi]
          rfl
        rw [upd_same, List.take_add_one, er, List.map_append]
        rfl
    · rintro H2 ⟨s2, l2⟩
      have er : (rankRow N rs).length = wd N := by rw [rankRow, List.length_map, List.length_range]
      rw [List.take_of_length_le (by omega)] at l2
      refine ⟨D, _, rfl, .inl ⟨SqL.of l2, fun q hq => ?_⟩⟩
      have sq := same_new (o := .tup ((rankRow N rs).map V.int)) hq
      have rq : Rd (upd H2 q (.tup ((rankRow N rs).map V.int))) q (.tup ((rankRow N rs).map V.int)) := .inl upd_same
      have nq := old_new (sc.trans s2) hq
      have sA := (sc.trans s2).trans sq
      generalize upd H2 q (.tup ((rankRow N rs).map V.int)) = G at *
      refine ⟨_, rfl, _, rfl, by show 1 ≤ sizeLine; decide, fun u1 hu1 => ?_⟩
      have s1 := same_new (o := .tup [V.int 1]) hu1
      have r1 : Rd (upd G u1 (.tup [V.int 1])) u1 (.tup [V.int 1]) := .inl upd_same
      have nu1 := old_new sA hu1
      have rq1 := same_rd s1 rq
      have sB := sA.trans s1
      generalize upd G u1 (.tup [V.int 1]) = G1 at *
      refine ⟨_, rfl, q, _, rfl, .inr (.inl rq1), u1, _, _, rfl, rfl, r1, List.cons_ne_nil _ _, ?_, ?_, by decide, fun q1 G2 s2' r2 w2 => ?_⟩
      · rw [List.length_map]; omega
      · rw [List.length_map]; omega
      have nq1 : ¬ Old H q1 := by
        rcases w2 with w2 | w2
        · rw [w2]; exact nu1
        · exact old_new sB w2
      rw [flat_one] at r2
      have rq2 := same_rd s2' rq1
      have sC := sB.trans s2'
      refine ⟨by show 1 ≤ sizeLine; decide, fun u2 hu2 => ?_⟩
      have s3 := same_new (o := .tup [V.int 2]) hu2
      have r3 : Rd (upd G2 u2 (.tup [V.int 2])) u2 (.tup [V.int 2]) := .inl upd_same
      have nu2 := old_new sC hu2
      have rq3 := same_rd s3 rq2
      have r23 := same_rd s3 r2
      have sD := sC.trans s3
      generalize upd G2 u2 (.tup [V.int 2]) = G3 at *
      refine ⟨_, rfl, q, _, rfl, .inr (.inl rq3), u2, _, _, rfl, rfl, r3, List.cons_ne_nil _ _, ?_, ?_, by decide, fun q2 G4 s4 r4 w4 => ?_⟩
      · rw [List.length_map]; omega
      · rw [List.length_map]; omega
      have nq2 : ¬ Old H q2 := by
        rcases w4 with w4 | w4
        · rw [w4]; exact nu2
        · exact old_new sD w4
      rw [flat_one] at r4
      have rq4 := same_rd s4 rq3
      have r24 := same_rd s4 r23
      have sE := sD.trans s4
      refine ⟨by show 3 ≤ sizeLine; decide, fun qr hqr => ?_⟩
      have s5 := same_new (o := .tup [.ref q, .ref q1, .ref q2]) hqr
      have r5 : Rd (upd G4 qr (.tup [.ref q, .ref q1, .ref q2])) qr (.tup [.ref q, .ref q1, .ref q2]) := .inl upd_same
      have nqr := old_new sE hqr
      have rq5 := same_rd s5 rq4
      have r25 := same_rd s5 r24
      have r45 := same_rd s5 r4
      have sF := sE.trans s5
      generalize upd G4 qr (.tup [.ref q, .ref q1, .ref q2]) = G5 at *
      refine ⟨1, rfl, by show 3 ≤ sizeLine; decide, fun qv hqv => ?_⟩
      have s6 := same_new (o := .tup [.int 0, .int (-1), .int 1]) hqv
      have r6 : Rd (upd G5 qv (.tup [.int 0, .int (-1), .int 1])) qv (.tup [.int 0, .int (-1), .int 1]) := .inl upd_same
      have nqv := old_new sF hqv
      have sG := sF.trans s6
      have rq6 := same_rd s6 rq5
      have r26 := same_rd s6 r25
      have r46 := same_rd s6 r45
      have r56 := same_rd s6 r5
      refine ⟨by show 3 ≤ sizeLine; decide, fun qf hqf => ?_⟩
      have s7 := same_new (o := .tup [.int (N : Int), .ref qr, .ref qv]) hqf
      have nqf := old_new sG hqf
      rw [show (((rankRow N rs).map V.int).length : Int).toNat = wd N by rw [List.length_map, er]; rfl] at r26 r46
      have rep : ∀ j : Int, (List.replicate (wd N) (V.int j)) = (List.replicate (wd N) j).map V.int := fun j => by rw [List.map_replicate]
      rw [rep] at r26 r46
      exact k _ _ (sG.trans s7) ⟨⟨qf, qr, qv, _, rfl, nqf, nqr, nqv, .inl upd_same, same_rd s7 r56, same_rd s7 r6, .cons ⟨q, rfl, nq, same_rd s7 rq6⟩ (.cons ⟨q1, rfl, nq1, same_rd s7 r26⟩ (.cons ⟨q2, rfl, nq2, same_rd s7 r46⟩ .nil))⟩,
        by omega, by omega, by show 1 ≤ 3; decide, by show 3 ≤ 90; decide, rank_rws N1 N3, rfl, by decide⟩
end
section
variable {P : Program} {w : World} {K : PySem.W.Frag} {mg : Str → Option Value} {base : Heap}
theorem old_mono {H H1 : Hp} (s : Same H H1) : ∀ b, Old H b → Old H1 b := fun b z e => by
  cases h : H b with
  | none => exact z h
  | some o => rw [s _ _ h] at e; cases e
theorem scByLen : FnScope ["letters"] ["letters"] (defScope sByLen) := ⟨rfl, rfl, rfl, by decide +kernel, rfl, by decide +kernel, by decide +kernel⟩
def spByLen : Sp := fun vs H Q _ => ∃ N : Nat, vs = [.int (N : Int)] ∧ 1 ≤ N ∧ N ≤ 3 ∧ ∀ H' v, Same H H' → CAt (Old H) H' v N (rankRws N (List.replicate N 0)) [0, -1, 1] → Q v H'
theorem ok_byLen {f fB : Addr} {fd fdB : FuncData} (F : Fun K "by_length" "by_length" sByLen f fd)
    (C : FnOk P w K mg base CX0 2 fB fdB ["letters", "ranks"] (spByRanks K)) (FB : Fun K "by_ranks" "by_ranks" sByRanks fB fdB) (bB : Binds K fdB ["letters", "ranks"] []) (gB : mg "by_ranks" = some (.ref fB)) :
    FnOk P w K mg base CX0 3 f fd ["letters"] spByLen := by
  refine F.ok scByLen (fun vs H Q E h => ?_) (fun cdv A outer s H vs Q E hr h => ?_)
  · obtain ⟨N, rfl, _⟩ := h
    rfl
  · obtain ⟨N, rfl, N1, N3, k⟩ := h
    refine ⟨_, pss_one (ps_ret (pe_call C hr (by rfl) gB FB.kp bB .nil pass0 (pa_cons (pv 0) (pa_cons (pe_op op_repS (pe_tup (pa_cons pe_int pa_nil)) (pv 0)) pa_nil)))), ?_⟩
    refine ⟨_, rfl, by show 1 ≤ sizeLine; decide, fun u hu => ⟨_, rfl, u, _, _, rfl, rfl, .inl upd_same, List.cons_ne_nil _ _, by omega, by omega, by decide, fun q H1 s1 r1 _ => ?_⟩⟩
    rw [flat_one] at r1
    have s2 := (same_new (o := .tup [V.int 0]) hu).trans s1
    refine ⟨N, q, List.replicate N 0, rfl, N1, N3, .inl ?_, List.length_replicate, fun H' v s3 cm => k H' v (s2.trans s3) (cm.weak (old_mono s2))⟩
    rw [List.map_replicate]
    exact r1
def negs (vds : List Int) : List Int := vds.map fun x => -x
theorem negs_at {vds : List Int} {i : Nat} {x : Int} (h : vds[i]? = some x) : ((negs vds).take i).map V.int ++ [V.int (-x)] = ((negs vds).take (i + 1)).map V.int := by
  have e : (negs vds)[i]? = some (-x) := by rw [negs, List.getElem?_map, h]; rfl
  rw [List.take_add_one, e, List.map_append]
  rfl
theorem negs_cm {B : Addr → Prop} {H' : Hp} {L : Int} {rws : List (List Int)} {vds : List Int} {H : Hp} {v : V} (h : CAt B H v L rws vds) {qf pr qv : Addr} {rvs : List V} (n1 : ¬ B qf) (n2 : ¬ B pr) (n3 : ¬ B qv) (h1 : Rd H' qf (.tup [.int L, .ref pr, .ref qv])) (h2 : Rd H' pr (.tup rvs))
    (h3 : Rd H' qv (.tup ((negs vds).map V.int))) (h4 : Paired (RowAt B H') rvs rws) : CAt B H' (.ref qf) L rws (negs vds) :=
  ⟨⟨qf, pr, qv, rvs, rfl, n1, n2, n3, h1, h2, h3, h4⟩, h.L1, h.L3, h.r1, h.r61, h.rw, by rw [negs, List.length_map]; exact h.vl, fun x hx => by
    obtain ⟨y, hy, rfl⟩ := List.mem_map.mp hx
    have := h.vb y hy
    omega⟩
def spTurned (K : PySem.W.Frag) : Sp := fun vs H Q _ => ∃ (B : Addr → Prop) (v : V) (L : Int) (rws : List (List Int)) (vds : List Int), vs = [v] ∧ CAt B H v L rws vds ∧ TB B H ∧ ∀ H' v', Same H H' → CAt B H' v' L rws (negs vds) → Q v' H'
theorem scTurned : FnScope ["comp", "letters", "rows", "verdicts", "verdict"] ["comp"] (defScope sTurned) := ⟨rfl, rfl, rfl, by decide +kernel, rfl, by decide +kernel, by decide +kernel⟩
theorem ok_turned {f : Addr} {fd : FuncData} (F : Fun K "turned" "turned" sTurned f fd) (T : Mg mg) : FnOk P w K mg base CX0 1 f fd ["comp"] (spTurned K) := by
  refine F.ok scTurned (fun vs H Q E h => ?_) (fun cdv A outer s H vs Q E hr h => ?_)
  · obtain ⟨B, v, L, rws, vds, rfl, _⟩ := h
    rfl
  · obtain ⟨B, v, L, rws, vds, rfl, hc, tb, k⟩ := h
    obtain ⟨p, pr, pd, rvs, rfl, n1, n2, n3, h1, h2, h3, h4⟩ := hc.at_
    have l90 : vds.length ≤ 90 := by rw [hc.vl]; exact hc.r61
    refine ⟨_, pss_cons (ps_asg (pv 0) (pg_tup rfl (pgs_cons (pg_name (i := 1) scTurned.nd rfl (.inl rfl)) (pgs_cons (pg_name (i := 2) scTurned.nd rfl (.inl rfl)) (pgs_cons (pg_name (i := 3) scTurned.nd rfl (.inl rfl)) pgs_nil)))))
      (pss_one (ps_ret (pe_tup (pa_cons (pv 1) (pa_cons (pv 2) (pa_cons (pe_callTy (r := rTup K) call_tuple_of (by rfl) T.tuple PyProof.Rows.boot_tuple (pa_cons (pe_lc (own := [("verdict", 4)]) (g := gName 4) (tt := tYes) rfl scTurned.nd (pi_tup (pv 3)) (blkOk_by (N := ["comp", "letters", "rows", "verdicts", "verdict"]) (sc := defScope sTurned) (by decide +kernel))
        (fun _ _ _ _ _ => pg_name (i := 4) scTurned.nd rfl (Or.inl rfl)) (fun _ _ _ _ _ => pts_nil) (fun _ _ _ _ _ => pe_un un_neg (pv 4))) pa_nil)) pa_nil)))))), ?_⟩
    refine ⟨_, rfl, p, _, rfl, .inl h1, rfl, _, _, rfl, _, _, rfl, _, _, rfl, rfl, ?_⟩
    refine ⟨_, rfl, _, rfl, _, rfl, pd, rfl, ⟨_, .inl h3⟩, fun D hD => ?_⟩
    refine lc_tup (K := K) (a := pd) (xs := vds.map V.int) (fun j H' => Same H H' ∧ H' D = some (.lst (((negs vds).take j).map V.int))) ⟨same_new hD, upd_same⟩ (fun i H' _ q => same_seqT q.1 (.inl h3)) ?_ ?_
    · rintro i x H2 hxi ⟨s2, l2⟩
      rw [List.getElem?_map] at hxi
      obtain ⟨y, hy, rfl⟩ := Option.map_eq_some_iff.mp hxi
      refine ⟨rfl, _, rfl, y, rfl, _, l2, ?_, fun b o z => ?_, ?_⟩
      · rw [List.length_map, List.length_take]
        exact small1000 (by rw [negs, List.length_map]; omega)
      · rw [upd_ne (ne_of_none z hD)]
        exact s2 _ _ z
      · rw [upd_same, negs_at hy]
    · rintro H2 ⟨s2, l2⟩
      rw [List.take_of_length_le (by rw [negs, List.length_map, List.length_map]; exact Nat.le_refl _)] at l2
      refine ⟨D, _, rfl, .inl ⟨SqL.of l2, fun q hq => ?_⟩⟩
      have sq := same_new (o := .tup ((negs vds).map V.int)) hq
      have tb2 := tb_same s2 tb
      have tb3 := tb_same sq tb2
      refine ⟨by show 3 ≤ sizeLine; decide, fun qf hqf => ?_⟩
      have sf := same_new (o := .tup [.int L, .ref pr, .ref q]) hqf
      have sA := (s2.trans sq).trans sf
      exact k _ _ sA (negs_cm hc (tb_off tb3 hqf) n2 (tb_off tb2 hq) (.inl upd_same) (same_rd sA h2) (same_rd sf (.inl upd_same)) (paired_imp (fun _ _ => RowAt.keep (Keep.same sA)) h4))
theorem scTurnedL : FnScope ["_law_comp_here", "_law_verdict"] ["_law_comp_here"] (defScope sTurnedL) := ⟨rfl, rfl, rfl, by decide +kernel, rfl, by decide +kernel, by decide +kernel⟩
theorem ok_turnedL {f : Addr} {fd : FuncData} (F : Fun K "_law_turned" "_law_turned" sTurnedL f fd) (T : Mg mg) : FnOk P w K mg base CX0 1 f fd ["_law_comp_here"] (spTurned K) := by
  refine F.ok scTurnedL (fun vs H Q E h => ?_) (fun cdv A outer s H vs Q E hr h => ?_)
  · obtain ⟨B, v, L, rws, vds, rfl, _⟩ := h
    rfl
  · obtain ⟨B, v, L, rws, vds, rfl, hc, tb, k⟩ := h
    obtain ⟨p, pr, pd, rvs, rfl, n1, n2, n3, h1, h2, h3, h4⟩ := hc.at_
    have l90 : vds.length ≤ 90 := by rw [hc.vl]; exact hc.r61
    refine ⟨_, pss_one (ps_ret (pe_tup (pa_cons (pe_ix ix_tup (pv 0) pe_int (fun _ _ => rfl)) (pa_cons (pe_ix ix_tup (pv 0) pe_int (fun _ _ => rfl)) (pa_cons (pe_callTy (r := rTup K) call_tuple_of (by rfl) T.tuple PyProof.Rows.boot_tuple (pa_cons (pe_lc (own := [("_law_verdict", 1)]) (g := gName 1) (tt := tYes) rfl scTurnedL.nd (pi_tup (pe_ix (r := rIxT K) ix_tup (pv 0) pe_int (fun _ _ => rfl))) (blkOk_by (N := ["_law_comp_here", "_law_verdict"]) (sc := defScope sTurnedL) (by decide +kernel))
        (fun _ _ _ _ _ => pg_name (i := 1) scTurnedL.nd rfl (Or.inl rfl)) (fun _ _ _ _ _ => pts_nil) (fun _ _ _ _ _ => pe_op op_sub pe_int (pv 1))) pa_nil)) pa_nil))))), ?_⟩
    refine ⟨_, rfl, p, _, 0, .int L, rfl, rfl, .inl h1, atI_nat (j := 0) rfl, ?_⟩
    refine ⟨_, rfl, p, _, 1, .ref pr, rfl, rfl, .inl h1, atI_nat (j := 1) rfl, ?_⟩
    refine ⟨_, rfl, p, _, 2, .ref pd, rfl, rfl, .inl h1, atI_nat (j := 2) rfl, ?_⟩
    refine ⟨pd, rfl, ⟨_, .inl h3⟩, fun D hD => ?_⟩
    refine lc_tup (K := K) (a := pd) (xs := vds.map V.int) (fun j H' => Same H H' ∧ H' D = some (.lst (((negs vds).take j).map V.int))) ⟨same_new hD, upd_same⟩ (fun i H' _ q => same_seqT q.1 (.inl h3)) ?_ ?_
    · rintro i x H2 hxi ⟨s2, l2⟩
      rw [List.getElem?_map] at hxi
      obtain ⟨y, hy, rfl⟩ := Option.map_eq_some_iff.mp hxi
      refine ⟨rfl, _, rfl, 0, y, rfl, rfl, _, l2, ?_, fun b o z => ?_, ?_⟩
      · rw [List.length_map, List.length_take]
        exact small1000 (by rw [negs, List.length_map]; omega)
      · rw [upd_ne (ne_of_none z hD)]
        exact s2 _ _ z
      · rw [upd_same, ← negs_at hy, ← Int.zero_sub y]
    · rintro H2 ⟨s2, l2⟩
      rw [List.take_of_length_le (by rw [negs, List.length_map, List.length_map]; exact Nat.le_refl _)] at l2
      refine ⟨D, _, rfl, .inl ⟨SqL.of l2, fun q hq => ?_⟩⟩
      have sq := same_new (o := .tup ((negs vds).map V.int)) hq
      have tb2 := tb_same s2 tb
      have tb3 := tb_same sq tb2
      refine ⟨by show 3 ≤ sizeLine; decide, fun qf hqf => ?_⟩
      have sf := same_new (o := .tup [.int L, .ref pr, .ref q]) hqf
      have sA := (s2.trans sq).trans sf
      exact k _ _ sA (negs_cm hc (tb_off tb3 hqf) n2 (tb_off tb2 hq) (.inl upd_same) (same_rd sA h2) (same_rd sf (.inl upd_same)) (paired_imp (fun _ _ => RowAt.keep (Keep.same sA)) h4))
end
/-! ### the law's comparison by ranks -/
section
variable {X : Cx}
def SqA (K : PySem.W.Frag) (H : Hp) (a : Addr) (xs : List V) : Prop := SqL K H a xs ∨ SqT K H a xs
def rIxA (K : PySem.W.Frag) : R2 := fun x y H Q => ∃ p xs i v, x = .ref p ∧ y = .int i ∧ SqA K H p xs ∧ atI xs i = some v ∧ Q v H
theorem ix_any : IxR X (rIxA X.K) := fun value slice pins s σ H x y v u Q I rx ry h hs => by
  obtain ⟨p, xs, i, z, e1, e2, hq, he, q⟩ := h
  rcases hq with hq | hq
  · exact ix_list value slice pins s σ H x y v u Q I rx ry ⟨p, xs, i, z, e1, e2, hq, he, q⟩ hs
  · exact ix_tup value slice pins s σ H x y v u Q I rx ry ⟨p, xs, i, z, e1, e2, hq, he, q⟩ hs
end
def sg1 (N i : Nat) : Nat := if i = N then 46 else 97 + i
theorem cols_sg {N : Nat} (h : 1 ≤ N) (h3 : N ≤ 3) : ∀ k, k < wd N → (colsS (N : Int))[k]? = some ⟨#[sg1 N (k / (N + 1)), sg1 N (k % (N + 1))]⟩ := by
  have : N = 1 ∨ N = 2 ∨ N = 3 := by omega
  rcases this with rfl | rfl | rfl <;> decide +kernel
theorem dec_dot (c : Nat) : decide (V.str ⟨#[c]⟩ = V.str ".") = decide (c = 46) := by
  by_cases h : c = 46
  · rw [h]
    exact (decide_eq_true rfl).trans (decide_eq_true rfl).symm
  · rw [decide_eq_false h, decide_eq_false]
    intro z
    have e : (⟨#[c]⟩ : Str) = (⟨#[46]⟩ : Str) := V.str.inj z
    have e2 : (#[c] : Array Nat) = #[46] := congrArg Str.cps e
    exact h (by simpa using e2)
theorem sg1_dot {N i : Nat} (h3 : N ≤ 3) (hi : i ≤ N) : sg1 N i = 46 ↔ i = N := by
  unfold sg1
  by_cases h : i = N
  · rw [if_pos h]; exact ⟨fun _ => h, fun _ => rfl⟩
  · rw [if_neg h]; exact ⟨fun z => absurd z (by omega), fun z => absurd z h⟩
theorem sg1_lt {N i : Nat} (h3 : N ≤ 3) (hi : i ≤ N) : sg1 N i < 128 := by
  unfold sg1
  split <;> omega
theorem occ_abc : ∀ j ≤ 2, Builtin.Str.occurrences "abc" (chr1 (97 + j)) 0 ("abc" : Str).length 1 = [j] := by decide +kernel
section
variable {P : Program} {w : World} {K : PySem.W.Frag} {mg : Str → Option Value} {base : Heap}
def spRankedL (K : PySem.W.Frag) : Sp := fun vs H Q _ => ∃ (N : Nat) (l : Addr) (rs : List Int), vs = [.int (N : Int), .ref l] ∧ 1 ≤ N ∧ N ≤ 3 ∧ SqA K H l (rs.map V.int) ∧ rs.length = N ∧ ∀ H' v, Same H H' → CAt (Old H) H' v N (rankRws N rs) [0, -1, 1] → Q v H'
theorem scRankedL : FnScope ["_law_letters", "_law_ranks", "_law_first", "_law_one_here", "_law_other", "_law_gap", "_law_wide"] ["_law_letters", "_law_ranks"] (defScope sRankedL) := ⟨rfl, rfl, rfl, by decide +kernel, rfl, by decide +kernel, by decide +kernel⟩
theorem ok_rankedL {f fC : Addr} {fd fdC : FuncData} (F : Fun K "_law_ranked" "_law_ranked" sRankedL f fd)
    (CL : FnOk P w K mg base CX0 1 fC fdC ["_law_letters"] spColsL) (FC : Fun K "_law_columns" "_law_columns" sColsL fC fdC) (bC : Binds K fdC ["_law_letters"] []) (gC : mg "_law_columns" = some (.ref fC)) (T : Mg mg) :
    FnOk P w K mg base CX0 2 f fd ["_law_letters", "_law_ranks"] (spRankedL K) := by
  refine F.ok scRankedL (fun vs H Q E h => ?_) (fun cdv A outer s H vs Q E hr h => ?_)
  · obtain ⟨N, l, rs, rfl, _⟩ := h
    rfl
  · obtain ⟨N, l, rs, rfl, N1, N3, hl, e, k⟩ := h
    obtain ⟨w3, w15⟩ := wd_le N1 N3
    refine ⟨_, pss_cons (ps_set (i := 2) scRankedL.nd rfl (.inl rfl) (pe_lstA pa_nil))
      (pss_cons (ps_for PassesOwn.never rfl (pi_list (pe_call CL hr (by rfl) gC FC.kp bC .nil pass0 (pa_cons (pv 0) pa_nil))) (pg_two rfl (pgs_cons (pg_name (i := 3) scRankedL.nd rfl (.inl rfl)) (pgs_cons (pg_name (i := 4) scRankedL.nd rfl (.inl rfl)) pgs_nil)))
        (pss_one (ps_if (PW.pt (pw_or (pt_cmpR op_eq (pv 3) pe_str (nomark _)) (pw_or1 (pt_cmpR op_eq (pv 4) pe_str (nomark _)))))
          (pss_one (ps_expr (pe_bm PySem.F.plainAttrs_list PySem.F.slot_list_append PySem.F.type_list_append mt_append (pv 2) (pa_cons (pe_ifExp (pt_cmpR op_eq (pv 3) pe_str (nomark _)) pe_int pe_int) pa_nil))))
          (pss_cons (ps_set (i := 5) scRankedL.nd rfl (.inl rfl) (pe_op op_sub (pe_ix (r := rIxA K) ix_any (pv 1) (pe_bm PySem.F.plainAttrs_str PySem.F.slot_str_index PySem.F.type_str_index mt_sindex pe_str (pa_cons (pv 3) pa_nil)) (fun _ _ => rfl)) (pe_ix (r := rIxA K) ix_any (pv 1) (pe_bm PySem.F.plainAttrs_str PySem.F.slot_str_index PySem.F.type_str_index mt_sindex pe_str (pa_cons (pv 4) pa_nil)) (fun _ _ => rfl))))
            (pss_one (ps_expr (pe_bm PySem.F.plainAttrs_list PySem.F.slot_list_append PySem.F.type_list_append mt_append (pv 2) (pa_cons (pe_ifExp (pt_cmpR op_eq (pv 5) pe_int (nomark _)) pe_int (pe_ifExp (pt_cmpR op_lt (pv 5) pe_int (nomark _)) pe_int pe_int)) pa_nil))))))))
      (pss_cons (ps_set (i := 6) scRankedL.nd rfl (.inl rfl) (pe_callB (r := rLen K) call_len_seq (by rfl) T.len PySem.boot_len (pa_cons (pv 2) pa_nil)))
      (pss_one (ps_ret (pe_tup (pa_cons (pv 0) (pa_cons (pe_tup (pa_cons (pe_callTy (r := rTup K) call_tuple_of (by rfl) T.tuple PyProof.Rows.boot_tuple (pa_cons (pv 2) pa_nil)) (pa_cons (pe_op op_repS (pe_tup (pa_cons pe_int pa_nil)) (pv 6)) (pa_cons (pe_op op_repS (pe_tup (pa_cons pe_int pa_nil)) (pv 6)) pa_nil))))
        (pa_cons (pe_tup (pa_cons pe_int (pa_cons (pe_un un_neg pe_int) (pa_cons pe_int pa_nil)))) pa_nil)))))))), ?_⟩
    refine ⟨by show 0 ≤ sizeLine; decide, fun p G s0 n0 _ l0 => ?_⟩
    refine ⟨_, rfl, (N : Int), rfl, by omega, by omega, fun Hc pc sc nc lc => ?_⟩
    have npc : p ≠ pc := ne_of_none l0 nc
    have eN : ((colsS (N : Int)).map V.str).length = wd N := by rw [List.length_map, cols_len (by omega) (by omega), wide_wd N1 N3]
    have hl0 : SqA K Hc l (rs.map V.int) := hl.imp (fun h => same_seqL (s0.trans sc) h) fun h => same_seqT (s0.trans sc) h
    refine ⟨pc, rfl, ⟨_, SqL.of lc⟩, for_it (walk_list (xs := (colsS (N : Int)).map V.str)) (fun i σ H' => (∃ y3 y4 y5, σ = [some (V.int (N : Int)), some (V.ref l), some (V.ref p), y3, y4, y5, none]) ∧ Same H H' ∧ H' pc = some (.lst ((colsS (N : Int)).map V.str)) ∧ H' p = some (.lst (((rankRow N rs).take i).map V.int)))
      ⟨⟨none, none, none, rfl⟩, s0.trans sc, lc, sc _ _ l0⟩ (fun _ _ _ _ q => SqL.of q.2.2.1) ?_ ?_⟩
    · rintro i x σ H1 H2 hi ⟨⟨y3, y4, y5, rfl⟩, s1, lc1, l1⟩ ⟨rfl, hx⟩
      rw [eN] at hi
      have hx2 : x = V.str ⟨#[sg1 N (i / (N + 1)), sg1 N (i % (N + 1))]⟩ := by
        rw [List.getElem?_map, cols_sg N1 N3 i hi] at hx
        exact (Option.some.inj hx).symm
      subst hx2
      obtain ⟨c1, c2⟩ := col_le hi
      have hl1 : SqA K H2 l (rs.map V.int) := hl.imp (fun h => same_seqL s1 h) fun h => same_seqT s1 h
      have er : (rankRow N rs)[i]? = some (rk rs (i / (N + 1)) (i % (N + 1))) := by
        rw [rankRow, List.getElem?_map, List.getElem?_range hi]
        rfl
      have app : ∀ x : Int, x = rk rs (i / (N + 1)) (i % (N + 1)) → (((rankRow N rs).take i).map V.int).length < sizeLine ∧ Same H (upd H2 p (.lst (((rankRow N rs).take i).map V.int ++ [V.int x]))) ∧ (upd H2 p (.lst (((rankRow N rs).take i).map V.int ++ [V.int x]))) pc = some (.lst ((colsS (N : Int)).map V.str)) ∧
          (upd H2 p (.lst (((rankRow N rs).take i).map V.int ++ [V.int x]))) p = some (.lst (((rankRow N rs).take (i + 1)).map V.int)) := fun x hx => by
        refine ⟨?_, fun b o z => ?_, ?_, ?_⟩
        · rw [List.length_map, List.length_take]
          exact small1000 (by omega)
        · rw [upd_ne (ne_of_none z n0)]
          exact s1 _ _ z
        · rw [upd_ne (Ne.symm npc)]
          exact lc1
        · rw [upd_same, List.take_add_one, er, hx, List.map_append]
          rfl
      refine ⟨_, _, rfl, sg1_lt N3 c1, sg1_lt N3 c2, _, _, rfl, _, _, rfl, rfl, ?_⟩
      have d1 : decide (V.str ⟨#[sg1 N (i / (N + 1))]⟩ = V.str ".") = decide (i / (N + 1) = N) := (dec_dot _).trans (decide_eq_decide.mpr (sg1_dot N3 c1))
      have d2 : decide (V.str ⟨#[sg1 N (i % (N + 1))]⟩ = V.str ".") = decide (i % (N + 1) = N) := (dec_dot _).trans (decide_eq_decide.mpr (sg1_dot N3 c2))
      refine ⟨_, rfl, rfl, _, rfl, ite2 (fun h1 => ?_) fun h1 => ?_⟩
      · rw [d1] at h1
        have h1 := of_decide_eq_true h1
        refine ⟨_, rfl, .inl ⟨rfl, _, SqL.of l1⟩, _, rfl, rfl, _, rfl, ite2 (fun _ => ?_) fun h => absurd (d1.trans (decide_eq_true h1)) h⟩
        obtain ⟨a1, a2, a3, a4⟩ := app 1 (if_pos (by omega)).symm
        exact ⟨p, _, .int 1, rfl, rfl, l1, a1, ⟨_, _, _, rfl⟩, a2, a3, a4⟩
      · rw [d1] at h1
        have h1 : i / (N + 1) ≠ N := fun z => h1 (decide_eq_true z)
        refine ⟨_, rfl, rfl, _, rfl, ite2 (fun h2 => ?_) fun h2 => ?_⟩
        · rw [d2] at h2
          have h2 := of_decide_eq_true h2
          refine ⟨_, rfl, .inl ⟨rfl, _, SqL.of l1⟩, _, rfl, rfl, _, rfl, ite2 (fun h => absurd (of_decide_eq_true (d1.symm.trans h)) h1) fun _ => ?_⟩
          obtain ⟨a1, a2, a3, a4⟩ := app 2 ((if_neg (by omega)).trans (if_pos (by omega))).symm
          exact ⟨p, _, .int 2, rfl, rfl, l1, a1, ⟨_, _, _, rfl⟩, a2, a3, a4⟩
        · rw [d2] at h2
          have h2 : i % (N + 1) ≠ N := fun z => h2 (decide_eq_true z)
          have s1' : sg1 N (i / (N + 1)) = 97 + i / (N + 1) := if_neg h1
          have s2' : sg1 N (i % (N + 1)) = 97 + i % (N + 1) := if_neg h2
          have o1 := occ_abc (i / (N + 1)) (by omega)
          have o2 := occ_abc (i % (N + 1)) (by omega)
          have x1 := at_ints (rs := rs) (i := i / (N + 1)) (by omega)
          have x2 := at_ints (rs := rs) (i := i % (N + 1)) (by omega)
          rw [s1', s2']
          have ek : rk rs (i / (N + 1)) (i % (N + 1)) = if rs.getD (i / (N + 1)) 0 = rs.getD (i % (N + 1)) 0 then 0 else if rs.getD (i / (N + 1)) 0 < rs.getD (i % (N + 1)) 0 then 1 else 2 := (if_neg (by omega)).trans (if_neg (by omega))
          rw [ek] at app
          refine ⟨_, rfl, rfl, _, rfl, "abc", _, i / (N + 1), [], rfl, rfl, o1, l, _, _, _, rfl, rfl, hl1, x1, ?_⟩
          refine ⟨_, rfl, rfl, _, rfl, "abc", _, i % (N + 1), [], rfl, rfl, o2, l, _, _, _, rfl, rfl, hl1, x2, _, _, rfl, rfl, ?_⟩
          generalize rs.getD (i / (N + 1)) 0 = u at *
          generalize rs.getD (i % (N + 1)) 0 = v at *
          refine ⟨_, rfl, .inl ⟨rfl, _, SqL.of l1⟩, _, rfl, rfl, _, rfl, ite2 (fun h3 => ?_) fun h3 => ?_⟩
          · rw [dec_int] at h3
            have h3 := of_decide_eq_true h3
            obtain ⟨a1, a2, a3, a4⟩ := app 0 (if_pos (by omega)).symm
            exact ⟨p, _, .int 0, rfl, rfl, l1, a1, ⟨_, _, _, rfl⟩, a2, a3, a4⟩
          · rw [dec_int] at h3
            have h3 : ¬ (u - v = 0) := fun z => h3 (decide_eq_true z)
            refine ⟨_, rfl, _, _, rfl, rfl, _, rfl, ite2 (fun h4 => ?_) fun h4 => ?_⟩
            · have h4 := of_decide_eq_true h4
              obtain ⟨a1, a2, a3, a4⟩ := app 1 ((if_neg (by omega)).trans (if_pos (by omega))).symm
              exact ⟨p, _, .int 1, rfl, rfl, l1, a1, ⟨_, _, _, rfl⟩, a2, a3, a4⟩
            · have h4 : ¬ (u - v < 0) := fun z => h4 (decide_eq_true z)
              obtain ⟨a1, a2, a3, a4⟩ := app 2 ((if_neg (by omega)).trans (if_neg (by omega))).symm
              exact ⟨p, _, .int 2, rfl, rfl, l1, a1, ⟨_, _, _, rfl⟩, a2, a3, a4⟩
    · rintro σ H1 ⟨⟨y3, y4, y5, rfl⟩, s1, lc1, l1⟩
      have er : (rankRow N rs).length = wd N := by rw [rankRow, List.length_map, List.length_range]
      rw [eN, List.take_of_length_le (by omega)] at l1
      refine ⟨_, rfl, p, _, rfl, .inl (SqL.of l1), _, rfl, _, rfl, p, _, rfl, .inl ⟨SqL.of l1, fun q hq => ?_⟩⟩
      have sq := same_new (o := .tup ((rankRow N rs).map V.int)) hq
      have rq : Rd (upd H1 q (.tup ((rankRow N rs).map V.int))) q (.tup ((rankRow N rs).map V.int)) := .inl upd_same
      have nq := old_new s1 hq
      have sA := s1.trans sq
      generalize upd H1 q (.tup ((rankRow N rs).map V.int)) = G at *
      refine ⟨by show 1 ≤ sizeLine; decide, fun u1 hu1 => ?_⟩
      have s1' := same_new (o := .tup [V.int 1]) hu1
      have r1 : Rd (upd G u1 (.tup [V.int 1])) u1 (.tup [V.int 1]) := .inl upd_same
      have nu1 := old_new sA hu1
      have rq1 := same_rd s1' rq
      have sB := sA.trans s1'
      generalize upd G u1 (.tup [V.int 1]) = G1 at *
      refine ⟨_, rfl, u1, _, _, rfl, rfl, r1, List.cons_ne_nil _ _, ?_, ?_, by decide, fun q1 G2 s2' r2 w2 => ?_⟩
      · rw [List.length_map]; omega
      · rw [List.length_map]; omega
      have nq1 : ¬ Old H q1 := by
        rcases w2 with w2 | w2
        · rw [w2]; exact nu1
        · exact old_new sB w2
      rw [flat_one] at r2
      have rq2 := same_rd s2' rq1
      have sC := sB.trans s2'
      refine ⟨by show 1 ≤ sizeLine; decide, fun u2 hu2 => ?_⟩
      have s3 := same_new (o := .tup [V.int 2]) hu2
      have r3 : Rd (upd G2 u2 (.tup [V.int 2])) u2 (.tup [V.int 2]) := .inl upd_same
      have nu2 := old_new sC hu2
      have rq3 := same_rd s3 rq2
      have r23 := same_rd s3 r2
      have sD := sC.trans s3
      generalize upd G2 u2 (.tup [V.int 2]) = G3 at *
      refine ⟨_, rfl, u2, _, _, rfl, rfl, r3, List.cons_ne_nil _ _, ?_, ?_, by decide, fun q2 G4 s4 r4 w4 => ?_⟩
      · rw [List.length_map]; omega
      · rw [List.length_map]; omega
      have nq2 : ¬ Old H q2 := by
        rcases w4 with w4 | w4
        · rw [w4]; exact nu2
        · exact old_new sD w4
      rw [flat_one] at r4
      have rq4 := same_rd s4 rq3
      have r24 := same_rd s4 r23
      have sE := sD.trans s4
      refine ⟨by show 3 ≤ sizeLine; decide, fun qr hqr => ?_⟩
      have s5 := same_new (o := .tup [.ref q, .ref q1, .ref q2]) hqr
      have r5 : Rd (upd G4 qr (.tup [.ref q, .ref q1, .ref q2])) qr (.tup [.ref q, .ref q1, .ref q2]) := .inl upd_same
      have nqr := old_new sE hqr
      have rq5 := same_rd s5 rq4
      have r25 := same_rd s5 r24
      have r45 := same_rd s5 r4
      have sF := sE.trans s5
      generalize upd G4 qr (.tup [.ref q, .ref q1, .ref q2]) = G5 at *
      refine ⟨1, rfl, by show 3 ≤ sizeLine; decide, fun qv hqv => ?_⟩
      have s6 := same_new (o := .tup [.int 0, .int (-1), .int 1]) hqv
      have r6 : Rd (upd G5 qv (.tup [.int 0, .int (-1), .int 1])) qv (.tup [.int 0, .int (-1), .int 1]) := .inl upd_same
      have nqv := old_new sF hqv
      have sG := sF.trans s6
      have rq6 := same_rd s6 rq5
      have r26 := same_rd s6 r25
      have r46 := same_rd s6 r45
      have r56 := same_rd s6 r5
      refine ⟨by show 3 ≤ sizeLine; decide, fun qf hqf => ?_⟩
      have s7 := same_new (o := .tup [.int (N : Int), .ref qr, .ref qv]) hqf
      have nqf := old_new sG hqf
      rw [show (((rankRow N rs).map V.int).length : Int).toNat = wd N by rw [List.length_map, er]; rfl] at r26 r46
      have rep : ∀ j : Int, (List.replicate (wd N) (V.int j)) = (List.replicate (wd N) j).map V.int := fun j => by rw [List.map_replicate]
      rw [rep] at r26 r46
      exact k _ _ (sG.trans s7) ⟨⟨qf, qr, qv, _, rfl, nqf, nqr, nqv, .inl upd_same, same_rd s7 r56, same_rd s7 r6, .cons ⟨q, rfl, nq, same_rd s7 rq6⟩ (.cons ⟨q1, rfl, nq1, same_rd s7 r26⟩ (.cons ⟨q2, rfl, nq2, same_rd s7 r46⟩ .nil))⟩,
        by omega, by omega, by show 1 ≤ 3; decide, by show 3 ≤ 90; decide, rank_rws N1 N3, rfl, by decide⟩
end
/-! ### one comparison behind another: the pairs of rows, as they are come to -/
abbrev IP : Type := Int × Int
def colsP (r1 r2 : List (List Int)) (c : IP) : List IP := (r1.getD c.1.toNat []).zip (r2.getD c.2.toNat [])
def addOne (P : List IP) (c : IP) : List IP := if c ∈ P then P else P ++ [c]
def addAll (P : List IP) (cs : List IP) : List IP := cs.foldl addOne P
def rowOf (P cs : List IP) : List Int := cs.map fun x => ((P.idxOf x : Nat) : Int)
def stepT (r1 r2 : List (List Int)) (s : List IP × List (List Int)) : List IP × List (List Int) :=
  match s.1[s.2.length]? with
  | none => s
  | some c => (addAll s.1 (colsP r1 r2 c), s.2 ++ [rowOf (addAll s.1 (colsP r1 r2 c)) (colsP r1 r2 c)])
def iterT (r1 r2 : List (List Int)) : Nat → List IP × List (List Int)
  | 0 => ([(0, 0)], [])
  | n + 1 => stepT r1 r2 (iterT r1 r2 n)
theorem addOne_mem {P : List IP} {c x : IP} : x ∈ addOne P c ↔ x ∈ P ∨ x = c := by
  unfold addOne
  by_cases h : c ∈ P
  · rw [if_pos h]
    exact ⟨.inl, fun z => z.elim id fun e => e ▸ h⟩
  · rw [if_neg h, List.mem_append, List.mem_singleton]
theorem addAll_mem {x : IP} : ∀ {cs P : List IP}, x ∈ addAll P cs ↔ x ∈ P ∨ x ∈ cs
  | [], P => by simp [addAll]
  | c :: cs, P => by
    show x ∈ addAll (addOne P c) cs ↔ _
    rw [addAll_mem, addOne_mem, List.mem_cons]
    constructor
    · rintro ((h | h) | h)
      · exact .inl h
      · exact .inr (.inl h)
      · exact .inr (.inr h)
    · rintro (h | h | h)
      · exact .inl (.inl h)
      · exact .inl (.inr h)
      · exact .inr h
theorem addOne_pre {P : List IP} {c : IP} : P <+: addOne P c := by
  unfold addOne
  split
  · exact List.prefix_rfl
  · exact List.prefix_append _ _
theorem addAll_pre : ∀ {cs P : List IP}, P <+: addAll P cs
  | [], _ => List.prefix_rfl
  | c :: cs, P => List.IsPrefix.trans (addOne_pre (c := c)) (addAll_pre (cs := cs))
theorem addOne_nodup {P : List IP} {c : IP} (h : P.Nodup) : (addOne P c).Nodup := by
  unfold addOne
  split
  · exact h
  · rename_i z
    rw [List.nodup_append]
    refine ⟨h, List.nodup_cons.mpr ⟨List.not_mem_nil, List.nodup_nil⟩, fun a ha b hb => ?_⟩
    rw [List.mem_singleton.mp hb]
    exact fun e => z (e ▸ ha)
theorem addAll_nodup : ∀ {cs P : List IP}, P.Nodup → (addAll P cs).Nodup
  | [], _, h => h
  | c :: cs, P, h => addAll_nodup (cs := cs) (P := addOne P c) (addOne_nodup h)
theorem addAll_snoc (P cs : List IP) (c : IP) : addAll P (cs ++ [c]) = addOne (addAll P cs) c := by
  unfold addAll
  rw [List.foldl_append]
  rfl
/-- what stands of the pairs -/
structure TInv (m1 m2 w n : Nat) (s : List IP × List (List Int)) : Prop where
  nd : s.1.Nodup
  bd : ∀ c ∈ s.1, 0 ≤ c.1 ∧ c.1 < (m1 : Int) ∧ 0 ≤ c.2 ∧ c.2 < (m2 : Int)
  le : s.2.length ≤ s.1.length
  at_ : s.2.length = n ∨ (s.2.length = s.1.length ∧ s.1.length ≤ n)
  ne : 1 ≤ s.1.length
  rw : ∀ r ∈ s.2, r.length = w ∧ ∀ x ∈ r, 0 ≤ x ∧ x < (s.1.length : Int)
theorem nats_len : ∀ (N : Nat) (xs : List Nat), xs.Nodup → (∀ x ∈ xs, x < N) → xs.length ≤ N
  | 0, xs, _, h => by
    cases xs with
    | nil => exact Nat.le_refl _
    | cons x xs => exact absurd (h x List.mem_cons_self) (Nat.not_lt_zero _)
  | N + 1, xs, nd, h => by
    by_cases z : N ∈ xs
    · have h1 := nats_len N (xs.erase N) (nd.erase N) fun x hx => by
        obtain ⟨a, b⟩ := (List.Nodup.mem_erase_iff nd).mp hx
        have := h x b
        omega
      rw [List.length_erase_of_mem z] at h1
      omega
    · have h1 := nats_len N xs nd fun x hx => by
        have := h x hx
        have : x ≠ N := fun e => z (e ▸ hx)
        omega
      omega
theorem code_at {m x y : Nat} (h : y < m) : (x * m + y) / m = x ∧ (x * m + y) % m = y := by
  refine ⟨?_, ?_⟩
  · rw [Nat.mul_comm, Nat.mul_add_div (by omega), Nat.div_eq_of_lt h, Nat.add_zero]
  · rw [Nat.mul_comm, Nat.mul_add_mod, Nat.mod_eq_of_lt h]
theorem bd_len {m1 m2 : Nat} {P : List IP} (nd : P.Nodup) (bd : ∀ c ∈ P, 0 ≤ c.1 ∧ c.1 < (m1 : Int) ∧ 0 ≤ c.2 ∧ c.2 < (m2 : Int)) : P.length ≤ m1 * m2 := by
  have h : ((P.map fun c : IP => c.1.toNat * m2 + c.2.toNat)).Nodup := by
    refine List.pairwise_map.mpr (List.Pairwise.imp_of_mem (fun {a b} ha hb e z => e ?_) nd)
    obtain ⟨a1, a2, a3, a4⟩ := bd a ha
    obtain ⟨b1, b2, b3, b4⟩ := bd b hb
    obtain ⟨u1, u2⟩ := code_at (x := a.1.toNat) (show a.2.toNat < m2 by omega)
    obtain ⟨v1, v2⟩ := code_at (x := b.1.toNat) (show b.2.toNat < m2 by omega)
    rw [z] at u1 u2
    exact Prod.ext (by omega) (by omega)
  have h2 := nats_len (m1 * m2) _ h fun x hx => by
    obtain ⟨c, hc, rfl⟩ := List.mem_map.mp hx
    obtain ⟨a1, a2, a3, a4⟩ := bd c hc
    have : c.1.toNat * m2 + c.2.toNat < (c.1.toNat + 1) * m2 := by rw [Nat.add_mul, Nat.one_mul]; omega
    exact Nat.lt_of_lt_of_le this (Nat.mul_le_mul_right _ (by omega))
  rw [List.length_map] at h2
  exact h2
theorem step_inv {r1 r2 : List (List Int)} {w n : Nat} {s : List IP × List (List Int)} (h1 : ∀ r ∈ r1, r.length = w ∧ ∀ x ∈ r, 0 ≤ x ∧ x < (r1.length : Int)) (h2 : ∀ r ∈ r2, r.length = w ∧ ∀ x ∈ r, 0 ≤ x ∧ x < (r2.length : Int))
    (I : TInv r1.length r2.length w n s) : TInv r1.length r2.length w (n + 1) (stepT r1 r2 s) := by
  unfold stepT
  cases e : s.1[s.2.length]? with
  | none =>
    have hl := List.getElem?_eq_none_iff.mp e
    have hle := I.le
    have e1 : s.2.length = s.1.length := by omega
    have e2 : s.1.length ≤ n + 1 := by rcases I.at_ with z | z <;> omega
    exact ⟨I.nd, I.bd, I.le, .inr ⟨e1, e2⟩, I.ne, I.rw⟩
  | some c =>
    have hlt := (List.getElem?_eq_some_iff.mp e).1
    have hc := I.bd c (List.mem_of_getElem? e)
    have hat : s.2.length = n := by rcases I.at_ with z | z <;> omega
    have g1 : r1[c.1.toNat]? = some (r1.getD c.1.toNat []) := by
      rw [List.getD_eq_getElem?_getD, List.getElem?_eq_getElem (by omega)]
      rfl
    have g2 : r2[c.2.toNat]? = some (r2.getD c.2.toNat []) := by
      rw [List.getD_eq_getElem?_getD, List.getElem?_eq_getElem (by omega)]
      rfl
    obtain ⟨w1, b1⟩ := h1 _ (List.mem_of_getElem? g1)
    obtain ⟨w2, b2⟩ := h2 _ (List.mem_of_getElem? g2)
    have lw : (colsP r1 r2 c).length = w := by rw [colsP, List.length_zip, w1, w2, Nat.min_self]
    have bc : ∀ x ∈ colsP r1 r2 c, 0 ≤ x.1 ∧ x.1 < (r1.length : Int) ∧ 0 ≤ x.2 ∧ x.2 < (r2.length : Int) := fun x hx => by
      obtain ⟨m1, m2⟩ := List.of_mem_zip (a := x.1) (b := x.2) hx
      exact ⟨(b1 _ m1).1, (b1 _ m1).2, (b2 _ m2).1, (b2 _ m2).2⟩
    have pl := (addAll_pre (cs := colsP r1 r2 c) (P := s.1)).length_le
    refine ⟨addAll_nodup I.nd, fun x hx => ?_, ?_, .inl ?_, Nat.le_trans I.ne pl, fun r hr => ?_⟩
    · rcases addAll_mem.mp hx with z | z
      · exact I.bd x z
      · exact bc x z
    · rw [List.length_append, List.length_singleton]
      show s.2.length + 1 ≤ (addAll s.1 (colsP r1 r2 c)).length
      omega
    · rw [List.length_append, List.length_singleton, hat]
    · rcases List.mem_append.mp hr with z | z
      · obtain ⟨q1, q2⟩ := I.rw r z
        refine ⟨q1, fun x hx => ?_⟩
        have := q2 x hx
        show 0 ≤ x ∧ x < ((addAll s.1 (colsP r1 r2 c)).length : Int)
        omega
      · rw [List.mem_singleton.mp z]
        refine ⟨by rw [rowOf, List.length_map, lw], fun x hx => ?_⟩
        obtain ⟨y, hy, rfl⟩ := List.mem_map.mp hx
        have : (addAll s.1 (colsP r1 r2 c)).idxOf y < (addAll s.1 (colsP r1 r2 c)).length := List.idxOf_lt_length_iff.mpr (addAll_mem.mpr (.inr hy))
        show 0 ≤ _ ∧ _ < ((addAll s.1 (colsP r1 r2 c)).length : Int)
        omega
theorem iter_inv {r1 r2 : List (List Int)} {w : Nat} (h1 : ∀ r ∈ r1, r.length = w ∧ ∀ x ∈ r, 0 ≤ x ∧ x < (r1.length : Int)) (h2 : ∀ r ∈ r2, r.length = w ∧ ∀ x ∈ r, 0 ≤ x ∧ x < (r2.length : Int)) (l1 : 1 ≤ r1.length) (l2 : 1 ≤ r2.length) :
    ∀ n, TInv r1.length r2.length w n (iterT r1 r2 n)
  | 0 => ⟨List.nodup_cons.mpr ⟨List.not_mem_nil, List.nodup_nil⟩, fun c hc => by
      rw [List.mem_singleton.mp hc]
      refine ⟨?_, ?_, ?_, ?_⟩ <;> simp <;> omega, Nat.zero_le _, .inl rfl, Nat.le_refl _, fun r hr => absurd hr List.not_mem_nil⟩
  | n + 1 => step_inv h1 h2 (iter_inv h1 h2 l1 l2 n)
def thenP (r1 r2 : List (List Int)) : List IP := (iterT r1 r2 (r1.length * r2.length)).1
def thenR (r1 r2 : List (List Int)) : List (List Int) := (iterT r1 r2 (r1.length * r2.length)).2
def verd (d1 d2 : List Int) (c : IP) : Int := if d1.getD c.1.toNat 0 ≠ 0 then d1.getD c.1.toNat 0 else d2.getD c.2.toNat 0
def thenD (r1 r2 : List (List Int)) (d1 d2 : List Int) : List Int := (thenP r1 r2).map (verd d1 d2)
theorem then_len {r1 r2 : List (List Int)} {w : Nat} (I : TInv r1.length r2.length w (r1.length * r2.length) (iterT r1 r2 (r1.length * r2.length))) : (thenR r1 r2).length = (thenP r1 r2).length := by
  have := bd_len I.nd I.bd
  have := I.le
  show (iterT r1 r2 _).2.length = (iterT r1 r2 _).1.length
  rcases I.at_ with z | z <;> omega
/-! ### the law's comparison behind another one -/
def ipD (c : IP) : PyData := .tuple [.int c.1, .int c.2]
theorem ip_eqv (a b : IP) : PyData.eqv (ipD a) (ipD b) = decide (a = b) := by
  have e : PyData.eqv (ipD a) (ipD b) = ((a.1 == b.1) && ((a.2 == b.2) && true)) := by
    simp only [ipD, PyData.eqv, PyData.eqvAll]
  rw [e, Bool.and_true]
  by_cases h : a = b
  · rw [h, decide_eq_true rfl]; simp
  · rw [decide_eq_false h, Bool.and_eq_false_iff]
    by_cases h1 : a.1 = b.1
    · exact .inr (beq_false_of_ne fun z => h (Prod.ext h1 z))
    · exact .inl (beq_false_of_ne h1)
theorem ip_any (P : List IP) (c : IP) : ((P.map ipD).any fun z => PyData.eqv z (ipD c)) = decide (c ∈ P) := by
  induction P with
  | nil => simp
  | cons x xs ih =>
    rw [List.map_cons, List.any_cons, ih, ip_eqv]
    by_cases h : x = c
    · rw [h]; simp
    · have : c ≠ x := fun z => h z.symm
      simp [h, this]
theorem ip_shape (c : IP) : SeqAt.shaped (ipD c) = true := by
  simp [SeqAt.shaped, ipD, PyData.canLay0, PyData.canLayAll0, PyData.depth, PyData.depthAll]
theorem ip_shapes (P : List IP) : SeqAt.shaped (.list (P.map ipD)) = true := by
  have h1 : PyData.canLayAll0 (P.map ipD) = true := by
    induction P with
    | nil => rfl
    | cons x xs ih => simp [PyData.canLayAll0, ipD, PyData.canLay0, ih]
  have h2 : PyData.depthAll (P.map ipD) ≤ 1 := by
    induction P with
    | nil => exact Nat.zero_le _
    | cons x xs ih =>
      have := ih (by
        simp [PyData.canLayAll0] at h1
        exact h1.2)
      simp only [List.map_cons, PyData.depthAll, ipD, PyData.depth]
      omega
  simp only [SeqAt.shaped, PyData.canLay0, PyData.depth, h1, Bool.true_and]
  exact decide_eq_true (by omega)
def PAt (B : Addr → Prop) (H : Hp) (v : V) (c : IP) : Prop := RowAt B H v [c.1, c.2]
theorem PAt.dp {B : Addr → Prop} {K : PySem.W.Frag} {H : Hp} {v : V} {c : IP} (h : PAt B H v c) : Dp K H v (ipD c) := by
  obtain ⟨q, rfl, _, r⟩ := h
  exact .tup (.inl r) (.cons (.int _) (.cons (.int _) .nil))
theorem pats_dp {B : Addr → Prop} {K : PySem.W.Frag} {H : Hp} {vs : List V} {P : List IP} (h : Paired (PAt B H) vs P) : DpAll K H vs (P.map ipD) := by
  induction h with
  | nil => exact .nil
  | cons a _ ih => exact .cons a.dp ih
theorem paired_len {α β : Type} {F : α → β → Prop} {xs : List α} {ys : List β} (h : Paired F xs ys) : xs.length = ys.length := by
  induction h with
  | nil => rfl
  | cons _ _ ih => rw [List.length_cons, List.length_cons, ih]
theorem paired_at' {α β : Type} {F : α → β → Prop} {xs : List α} {ys : List β} {i : Nat} {x : α} (h : Paired F xs ys) (e : xs[i]? = some x) : ∃ y, ys[i]? = some y ∧ F x y := by
  induction h generalizing i with
  | nil => simp at e
  | cons a _ ih =>
    cases i with
    | zero => exact ⟨_, rfl, by simp at e; exact e ▸ a⟩
    | succ i => exact ih (by simpa using e)
theorem idx_min {y : IP} : ∀ {P : List IP} {m : Nat}, P[m]? = some y → P.idxOf y ≤ m
  | [], _, h => by simp at h
  | x :: xs, 0, h => by
    simp at h
    subst h
    simp [List.idxOf_cons]
  | x :: xs, m + 1, h => by
    have := idx_min (P := xs) (m := m) (by simpa using h)
    rw [List.idxOf_cons]
    cases x == y
    · show List.idxOf y xs + 1 ≤ m + 1
      omega
    · exact Nat.zero_le _
theorem idx_first {P : List IP} {c : IP} (h : c ∈ P) : (P.map ipD)[P.idxOf c]? = some (ipD c) ∧ ∀ (m : Nat) (z : PyData), m < P.idxOf c → (P.map ipD)[m]? = some z → PyData.eqv z (ipD c) = false := by
  refine ⟨?_, fun m z hm hz => ?_⟩
  · rw [List.getElem?_map, List.getElem?_eq_getElem (List.idxOf_lt_length_iff.mpr h), List.getElem_idxOf]
    rfl
  · rw [List.getElem?_map] at hz
    obtain ⟨y, hy, rfl⟩ := Option.map_eq_some_iff.mp hz
    rw [ip_eqv]
    refine decide_eq_false fun e => ?_
    subst e
    exact absurd (idx_min hy) (by omega)
theorem keep_store {B : Addr → Prop} {H : Hp} {p : Addr} {o : HO} (hp : B p) : Keep B H (upd H p o) := fun x u nb e => by
  rw [upd_ne (fun z : x = p => nb (by rw [z]; exact hp))]
  exact e
theorem addAll_len : ∀ (cs P : List IP), (addAll P cs).length ≤ P.length + cs.length
  | [], _ => Nat.le_refl _
  | c :: cs, P => by
    have h1 := addAll_len cs (addOne P c)
    have h2 : (addOne P c).length ≤ P.length + 1 := by
      unfold addOne
      split
      · omega
      · rw [List.length_append, List.length_singleton]; exact Nat.le_refl _
    show (addAll (addOne P c) cs).length ≤ _
    rw [List.length_cons]
    omega
theorem step_at {r1 r2 : List (List Int)} {s : List IP × List (List Int)} {c : IP} (h : s.1[s.2.length]? = some c) : stepT r1 r2 s = (addAll s.1 (colsP r1 r2 c), s.2 ++ [rowOf (addAll s.1 (colsP r1 r2 c)) (colsP r1 r2 c)]) := by
  unfold stepT
  rw [h]
structure LSt (B : Addr → Prop) (pp po : Addr) (s : List IP × List (List Int)) (H : Hp) : Prop where
  np : B pp
  no : B po
  ne : pp ≠ po
  tb : TB B H
  ps : ∃ pvs, H pp = some (.lst pvs) ∧ Paired (PAt B H) pvs s.1
  os : ∃ ovs, H po = some (.lst ovs) ∧ Paired (RowAt B H) ovs s.2
section
variable {B : Addr → Prop} {pp po : Addr} {P : List IP} {R : List (List Int)} {H H' : Hp} {v : V}
theorem LSt.same (h : LSt B pp po (P, R) H) (s : Same H H') : LSt B pp po (P, R) H' := by
  obtain ⟨np, no, ne, tb, ⟨pvs, p1, p2⟩, ⟨ovs, o1, o2⟩⟩ := h
  exact ⟨np, no, ne, tb_same s tb, ⟨pvs, s _ _ p1, paired_imp (fun _ _ => RowAt.keep (Keep.same s)) p2⟩, ⟨ovs, s _ _ o1, paired_imp (fun _ _ => RowAt.keep (Keep.same s)) o2⟩⟩
theorem LSt.addP {c : IP} {pvs : List V} (h : LSt B pp po (P, R) H) (hp : H pp = some (.lst pvs)) (hv : PAt B H v c) : LSt B pp po (P ++ [c], R) (upd H pp (.lst (pvs ++ [v]))) := by
  obtain ⟨np, no, ne, tb, ⟨pvs', p1, p2⟩, ⟨ovs, o1, o2⟩⟩ := h
  rw [hp] at p1
  cases p1
  have k := keep_store (H := H) (o := .lst (pvs ++ [v])) np
  exact ⟨np, no, ne, tb_upd tb, ⟨_, upd_same, (paired_imp (fun _ _ => RowAt.keep k) p2).snoc (RowAt.keep k hv)⟩, ⟨ovs, by rw [upd_ne (Ne.symm ne)]; exact o1, paired_imp (fun _ _ => RowAt.keep k) o2⟩⟩
theorem LSt.addO {r : List Int} {ovs : List V} (h : LSt B pp po (P, R) H) (hp : H po = some (.lst ovs)) (hv : RowAt B H v r) : LSt B pp po (P, R ++ [r]) (upd H po (.lst (ovs ++ [v]))) := by
  obtain ⟨np, no, ne, tb, ⟨pvs, p1, p2⟩, ⟨ovs', o1, o2⟩⟩ := h
  rw [hp] at o1
  cases o1
  have k := keep_store (H := H) (o := .lst (ovs ++ [v])) no
  exact ⟨np, no, ne, tb_upd tb, ⟨pvs, by rw [upd_ne ne]; exact p1, paired_imp (fun _ _ => RowAt.keep k) p2⟩, ⟨_, upd_same, (paired_imp (fun _ _ => RowAt.keep k) o2).snoc (RowAt.keep k hv)⟩⟩
theorem LSt.dp {K : PySem.W.Frag} (h : LSt B pp po (P, R) H) : Dp K H (.ref pp) (.list (P.map ipD)) := by
  obtain ⟨pvs, p1, p2⟩ := h.ps
  exact .lst (SqL.of p1) (pats_dp p2)
theorem LSt.new {x y : Int} {T : Addr} (h : LSt B pp po (P, R) H) (hT : H T = none) : LSt B pp po (P, R) (upd H T (.tup [.int x, .int y])) ∧ PAt B (upd H T (.tup [.int x, .int y])) (.ref T) (x, y) :=
  ⟨h.same (same_new hT), T, rfl, tb_off h.tb hT, .inl upd_same⟩
end
section
variable {P : Program} {w : World} {K : PySem.W.Frag} {mg : Str → Option Value} {base : Heap}
def spThenL : Sp := fun vs H Q _ => ∃ (B : Addr → Prop) (v1 v2 : V) (L : Int) (r1 r2 : List (List Int)) (d1 d2 : List Int), vs = [v1, v2] ∧ CAt B H v1 L r1 d1 ∧ CAt B H v2 L r2 d2 ∧ TB B H ∧ r1.length * r2.length ≤ 90 ∧
  ∀ H' v, Same H H' → CAt B H' v L (thenR r1 r2) (thenD r1 r2 d1 d2) → Q v H'
theorem scThenL : FnScope ["_law_one_here", "_law_other", "_law_pairs", "_law_rows", "_law_turn", "_law_p", "_law_q", "_law_pair", "_law_verdicts"] ["_law_one_here", "_law_other"] (defScope sThenL) := ⟨rfl, rfl, rfl, by decide +kernel, rfl, by decide +kernel, by decide +kernel⟩
theorem ok_thenL {f : Addr} {fd : FuncData} (F : Fun K "_law_then" "_law_then" sThenL f fd) (T : Mg mg) : FnOk P w K mg base CX0 1 f fd ["_law_one_here", "_law_other"] spThenL := by
  refine F.ok scThenL (fun vs H Q E h => ?_) (fun cdv A outer s H vs Q E hr h => ?_)
  · obtain ⟨B, v1, v2, L, r1, r2, d1, d2, rfl, _⟩ := h
    rfl
  · obtain ⟨B, v1, v2, L, r1, r2, d1, d2, rfl, c1, c2, tb, m90, k⟩ := h
    obtain ⟨p, pr, pd, rvs, rfl, n1, n2, n3, h1, h2, h3, h4⟩ := c1.at_
    obtain ⟨q, qr, qd, qvs, rfl, n1', n2', n3', h1', h2', h3', h4'⟩ := c2.at_
    have hu : (A.deeper (envOfC "_law_then" (defScope sThenL) s.heap.objs.size f cdv)).units + 65 < cLine := by have := hr.un; omega
    refine ⟨_, pss_cons (ps_asg (pe_tup (pa_cons (pe_lstA (pa_cons (pe_tup (pa_cons pe_int (pa_cons pe_int pa_nil))) pa_nil)) (pa_cons (pe_lstA pa_nil) pa_nil))) (pg_tup rfl (pgs_cons (pg_name (i := 2) scThenL.nd rfl (.inr rfl)) (pgs_cons (pg_name (i := 3) scThenL.nd rfl (.inl rfl)) pgs_nil))))
      (pss_cons (ps_for PassesOwn.never rfl (pi_range1 (by rfl) T.range (pa_cons (pe_op op_mul (pe_callB (r := rLen K) call_len_seq (by rfl) T.len PySem.boot_len (pa_cons (pe_ix (r := rIxT K) ix_tup (pv 0) pe_int (fun _ _ => rfl)) pa_nil)) (pe_callB (r := rLen K) call_len_seq (by rfl) T.len PySem.boot_len (pa_cons (pe_ix (r := rIxT K) ix_tup (pv 1) pe_int (fun _ _ => rfl)) pa_nil))) pa_nil)) (pg_name (i := 4) scThenL.nd rfl (.inl rfl))
        (pss_one (ps_if (pt_cmpR op_lt (pv 4) (pe_callB (r := rLen K) call_len_seq (by rfl) T.len PySem.boot_len (pa_cons (pv 2) pa_nil)) (nomark _))
          (pss_cons (ps_asg (pe_ix (r := rIxL K) ix_list (pv 2) (pv 4) (fun _ _ => rfl)) (pg_tup rfl (pgs_cons (pg_name (i := 5) scThenL.nd rfl (.inl rfl)) (pgs_cons (pg_name (i := 6) scThenL.nd rfl (.inl rfl)) pgs_nil))))
          (pss_cons (ps_for PassesOwn.never rfl (pi_zipN (by rfl) T.zip (pa_cons (pe_ix (r := rIxT K) ix_tup (pe_ix (r := rIxT K) ix_tup (pv 0) pe_int (fun _ _ => rfl)) (pv 5) (fun _ _ => rfl)) (pa_cons (pe_ix (r := rIxT K) ix_tup (pe_ix (r := rIxT K) ix_tup (pv 1) pe_int (fun _ _ => rfl)) (pv 6) (fun _ _ => rfl)) pa_nil))) (pg_name (i := 7) scThenL.nd rfl (.inl rfl))
            (pss_one (ps_if (pt_cmpR (op_notInD hu) (pv 7) (pv 2) rfl) (pss_one (ps_expr (pe_bm PySem.F.plainAttrs_list PySem.F.slot_list_append PySem.F.type_list_append mt_append (pv 2) (pa_cons (pv 7) pa_nil)))) pss_nil)))
          (pss_one (ps_expr (pe_bm PySem.F.plainAttrs_list PySem.F.slot_list_append PySem.F.type_list_append mt_append (pv 3) (pa_cons (pe_callTy (r := rTup K) call_tuple_of (by rfl) T.tuple PyProof.Rows.boot_tuple (pa_cons (pe_lc (wi := iZipN K _) (te := tBM K "list" (rIndexD K) _ _) (own := [("_law_pair", 7)]) (g := gName 7) (tt := tYes) rfl scThenL.nd (pi_zipN (by rfl) T.zip (pa_cons (pe_ix (r := rIxT K) ix_tup (pe_ix (r := rIxT K) ix_tup (pv 0) pe_int (fun _ _ => rfl)) (pv 5) (fun _ _ => rfl)) (pa_cons (pe_ix (r := rIxT K) ix_tup (pe_ix (r := rIxT K) ix_tup (pv 1) pe_int (fun _ _ => rfl)) (pv 6) (fun _ _ => rfl)) pa_nil)))
            (blkOk_by (N := ["_law_one_here", "_law_other", "_law_pairs", "_law_rows", "_law_turn", "_law_p", "_law_q", "_law_pair", "_law_verdicts"]) (sc := defScope sThenL) (by decide +kernel)) (fun _ _ _ _ _ => pg_name (i := 7) scThenL.nd rfl (Or.inl rfl)) (fun _ _ _ _ _ => pts_nil)
            (fun _ _ _ _ _ => pe_bm (r := rIndexD K) PySem.F.plainAttrs_list PySem.F.slot_list_index PySem.F.type_list_index (mt_indexD hu) (pv 2) (pa_cons (pv 7) pa_nil))) pa_nil)) pa_nil))))))
          pss_nil)))
      (pss_cons (ps_setLc (i := 8) (own := [("_law_p", 5), ("_law_q", 6)]) (g := gTup K 2 (gCons (gName 5) (gCons (gName 6) gNil))) (tt := tYes) rfl scThenL.nd rfl rfl (sw_true rfl rfl rfl (by decide +kernel)) (pi_list (pv 2)) (blkOk_by (N := ["_law_one_here", "_law_other", "_law_pairs", "_law_rows", "_law_turn", "_law_p", "_law_q", "_law_pair", "_law_verdicts"]) (sc := defScope sThenL) (by decide +kernel))
          (fun _ _ _ _ _ => pg_tup rfl (pgs_cons (pg_name (i := 5) scThenL.nd rfl (Or.inl rfl)) (pgs_cons (pg_name (i := 6) scThenL.nd rfl (Or.inl rfl)) pgs_nil))) (fun _ _ _ _ _ => pts_nil)
          (fun _ _ _ _ _ => pe_ifExp (pt_cmpR op_ne (pe_ix (r := rIxT K) ix_tup (pe_ix (r := rIxT K) ix_tup (pv 0) pe_int (fun _ _ => rfl)) (pv 5) (fun _ _ => rfl)) pe_int (nomark _)) (pe_ix (r := rIxT K) ix_tup (pe_ix (r := rIxT K) ix_tup (pv 0) pe_int (fun _ _ => rfl)) (pv 5) (fun _ _ => rfl)) (pe_ix (r := rIxT K) ix_tup (pe_ix (r := rIxT K) ix_tup (pv 1) pe_int (fun _ _ => rfl)) (pv 6) (fun _ _ => rfl))))
      (pss_one (ps_ret (pe_tup (pa_cons (pe_ix (r := rIxT K) ix_tup (pv 0) pe_int (fun _ _ => rfl)) (pa_cons (pe_callTy (r := rTup K) call_tuple_of (by rfl) T.tuple PyProof.Rows.boot_tuple (pa_cons (pv 3) pa_nil)) (pa_cons (pe_callTy (r := rTup K) call_tuple_of (by rfl) T.tuple PyProof.Rows.boot_tuple (pa_cons (pv 8) pa_nil)) pa_nil)))))))), ?_⟩
    refine ⟨by show 2 ≤ sizeLine; decide, fun t0 ht0 => ⟨by show 1 ≤ sizeLine; decide, fun pp G1 s1 np _ lp => ⟨by show 0 ≤ sizeLine; decide, fun po G2 s2 no _ lo => ⟨by show 2 ≤ sizeLine; decide, fun u hu2 => ?_⟩⟩⟩⟩
    have s0 := same_new (o := .tup [V.int 0, V.int 0]) ht0
    have r0 : Rd (upd H t0 (.tup [V.int 0, V.int 0])) t0 (.tup [V.int 0, V.int 0]) := .inl upd_same
    have nt0 := tb_off tb ht0
    have s3 := same_new (o := .tup [V.ref pp, V.ref po]) hu2
    have ru : SqT K (upd G2 u (.tup [V.ref pp, V.ref po])) u [V.ref pp, V.ref po] := .inl (.inl upd_same)
    have sB : Same H G1 := s0.trans s1
    have sC : Same H (upd G2 u (.tup [V.ref pp, V.ref po])) := sB.trans (s2.trans s3)
    have lp3 : (upd G2 u (.tup [V.ref pp, V.ref po])) pp = some (.lst [.ref t0]) := s3 _ _ (s2 _ _ lp)
    have lo3 : (upd G2 u (.tup [V.ref pp, V.ref po])) po = some (.lst []) := s3 _ _ lo
    have r03 := same_rd (s1.trans (s2.trans s3)) r0
    have hpo : pp ≠ po := ne_of_none lp no
    have nHp : H pp = none := s0.free np
    have nHo : H po = none := sB.free no
    have nBp : ¬ B pp := tb_off tb (s0.free np)
    have nBo : ¬ B po := tb_off tb (sB.free no)
    have t0p : t0 ≠ pp := ne_of_none upd_same np
    have t0o : t0 ≠ po := ne_of_none (s1 _ _ upd_same) no
    generalize upd G2 u (.tup [V.ref pp, V.ref po]) = G at *
    refine ⟨u, _, rfl, ru, rfl, _, _, rfl, _, _, rfl, rfl, ?_⟩
    refine ⟨_, rfl, p, _, 1, .ref pr, rfl, rfl, same_seqT sC (.inl h1), atI_nat (j := 1) rfl, pr, rvs, rfl, .inr (same_seqT sC (.inl h2)), ?_⟩
    refine ⟨_, rfl, q, _, 1, .ref qr, rfl, rfl, same_seqT sC (.inl h1'), atI_nat (j := 1) rfl, qr, qvs, rfl, .inr (same_seqT sC (.inl h2')), ?_⟩
    have e1 : rvs.length = r1.length := paired_len h4
    have e2 : qvs.length = r2.length := paired_len h4'
    rw [e1, e2]
    have b1 : r1.length ≤ 90 := c1.r61
    have b2 : r2.length ≤ 90 := c2.r61
    have a1 := c1.r1
    have a2 := c2.r1
    have inv := iter_inv c1.rw c2.rw a1 a2
    have tbB : TB (fun b => (B b ∨ b = pp) ∨ b = po) G := fun b z e => by
      rcases z with (z | z) | z
      · exact tb_same sC tb b z e
      · rw [z, lp3] at e; cases e
      · rw [z, lo3] at e; cases e
    have st0 : LSt (fun b => (B b ∨ b = pp) ∨ b = po) pp po ([(0, 0)], []) G := ⟨.inl (.inr rfl), .inr rfl, hpo, tbB, ⟨_, lp3, .cons ⟨t0, rfl, fun z => z.elim (fun z => z.elim nt0 t0p) t0o, r03⟩ .nil⟩, ⟨_, lo3, .nil⟩⟩
    generalize hB' : (fun b => (B b ∨ b = pp) ∨ b = po) = B' at *
    refine ⟨_, _, rfl, rfl, .inl ⟨by omega, by omega⟩, ((r1.length * r2.length : Nat) : Int), by rw [Int.natCast_mul], by omega, by omega, for_range (lo := 0) (n := ((r1.length * r2.length : Nat) : Int).toNat)
      (fun i σ H' => (∃ y4 y5 y6 y7, σ = [some (.ref p), some (.ref q), some (V.ref pp), some (V.ref po), y4, y5, y6, y7, none]) ∧ Same H H' ∧ LSt B' pp po (iterT r1 r2 i) H') ⟨⟨none, none, none, none, rfl⟩, sC, st0⟩ ?_ ?_⟩
    · rintro i σ H1 hi ⟨⟨y4, y5, y6, y7, rfl⟩, sI, st⟩
      have TI := inv i
      replace st : LSt B' pp po ((iterT r1 r2 i).1, (iterT r1 r2 i).2) H1 := st
      have hPl : (iterT r1 r2 i).1.length ≤ 90 := Nat.le_trans (bd_len TI.nd TI.bd) m90
      have hRl : (iterT r1 r2 i).2.length ≤ 90 := Nat.le_trans TI.le hPl
      obtain ⟨pvs, p1, p2⟩ := st.ps
      replace p2 : Paired (PAt B' H1) pvs (iterT r1 r2 i).1 := p2
      have epl : pvs.length = (iterT r1 r2 i).1.length := paired_len p2
      refine ⟨_, rfl, _, rfl, pp, pvs, rfl, .inl (SqL.of p1), _, _, rfl, rfl, _, rfl, ite2 (fun hlt => ?_) fun hlt => ?_⟩
      · have hlt := of_decide_eq_true hlt
        have hi2 : i < (iterT r1 r2 i).1.length := by omega
        have hRi : (iterT r1 r2 i).2.length = i := by rcases TI.at_ with z | z <;> omega
        have hc : (iterT r1 r2 i).1[(iterT r1 r2 i).2.length]? = some ((iterT r1 r2 i).1[i]) := by rw [hRi]; exact List.getElem?_eq_getElem hi2
        have es := step_at (r1 := r1) (r2 := r2) hc
        have hcb := TI.bd _ (List.mem_of_getElem? hc)
        obtain ⟨cv, hcv, qc, rfl, nqc, rqc⟩ := paired_at (i := i) p2 (by rw [← hRi]; rw [hRi]; exact List.getElem?_eq_getElem hi2)
        generalize (iterT r1 r2 i).1[i] = c at *
        have eit : iterT r1 r2 (i + 1) = stepT r1 r2 (iterT r1 r2 i) := rfl
        rw [es] at eit
        generalize (iterT r1 r2 i).1 = P0 at *
        generalize (iterT r1 r2 i).2 = R0 at *
        have g1 : r1[c.1.toNat]? = some (r1.getD c.1.toNat []) := by
          rw [List.getD_eq_getElem?_getD, List.getElem?_eq_getElem (by omega)]
          rfl
        have g2 : r2[c.2.toNat]? = some (r2.getD c.2.toNat []) := by
          rw [List.getD_eq_getElem?_getD, List.getElem?_eq_getElem (by omega)]
          rfl
        obtain ⟨w1, _⟩ := c1.rw _ (List.mem_of_getElem? g1)
        obtain ⟨w2, _⟩ := c2.rw _ (List.mem_of_getElem? g2)
        obtain ⟨v1, hv1, x1, rfl, nx1, rx1⟩ := paired_at h4 g1
        obtain ⟨v2, hv2, x2, rfl, nx2, rx2⟩ := paired_at h4' g2
        have ecs : colsP r1 r2 c = (r1.getD c.1.toNat []).zip (r2.getD c.2.toNat []) := rfl
        generalize r1.getD c.1.toNat [] = row1 at *
        generalize r2.getD c.2.toNat [] = row2 at *
        generalize colsP r1 r2 c = cs at *
        have w15 : wide L ≤ 15 := by
          rcases L123 c1.L1 c1.L3 with e | e | e <;> (rw [e]; decide)
        have lcs : cs.length = wide L := by rw [ecs, List.length_zip, w1, w2, Nat.min_self]
        have k1 : c.1 = ((c.1.toNat : Nat) : Int) := by omega
        have k2 : c.2 = ((c.2.toNat : Nat) : Int) := by omega
        have at1 : atI rvs c.1 = some (.ref x1) := by rw [k1]; exact atI_nat hv1
        have at2 : atI qvs c.2 = some (.ref x2) := by rw [k2]; exact atI_nat hv2
        refine ⟨_, rfl, _, rfl, pp, pvs, (0 + i : Int), .ref qc, rfl, rfl, SqL.of p1, (by rw [Int.zero_add]; exact atI_nat hcv), qc, _, rfl, .inl rqc, rfl, _, _, rfl, _, _, rfl, rfl, ?_⟩
        have qA : ∀ {G : Hp}, Same H G → SqT K G p [.int L, .ref pr, .ref pd] ∧ SqT K G pr rvs ∧ SqT K G x1 (row1.map V.int) ∧ SqT K G q [.int L, .ref qr, .ref qd] ∧ SqT K G qr qvs ∧ SqT K G x2 (row2.map V.int) := fun s =>
          ⟨same_seqT s (.inl h1), same_seqT s (.inl h2), same_seqT s (.inl rx1), same_seqT s (.inl h1'), same_seqT s (.inl h2'), same_seqT s (.inl rx2)⟩
        obtain ⟨t1, t2, t3, t4, t5, t6⟩ := qA sI
        refine ⟨_, rfl, p, _, 1, .ref pr, rfl, rfl, t1, atI_nat (j := 1) rfl, _, rfl, pr, rvs, c.1, .ref x1, rfl, rfl, t2, at1, ?_⟩
        refine ⟨_, rfl, q, _, 1, .ref qr, rfl, rfl, t4, atI_nat (j := 1) rfl, _, rfl, qr, qvs, c.2, .ref x2, rfl, rfl, t5, at2, ?_⟩
        have wt : ∀ {G : Hp}, Walk (RZ.ItzT K x1 x2) (wide L) (fun H => SqT K H x1 (row1.map V.int) ∧ SqT K H x2 (row2.map V.int)) (YPair (fun i => (row1.map V.int)[i]?) (fun i => (row2.map V.int)[i]?)) := walk_zipT (by rw [List.length_map, w1]) (by rw [List.length_map, w2])
        refine ⟨x1, x2, row1.map V.int, row2.map V.int, rfl, t3, t6, for_it (wt (G := H1)) (fun j σ H' => (∃ y7, σ = [some (.ref p), some (.ref q), some (V.ref pp), some (V.ref po), some (V.int (0 + i)), some (V.int c.1), some (V.int c.2), y7, none]) ∧ Same H H' ∧ LSt B' pp po (addAll P0 (cs.take j), R0) H')
          ⟨⟨y7, rfl⟩, sI, by rw [List.take_zero]; exact st⟩ (fun j σ H' _ z => ⟨(qA z.2.1).2.2.1, (qA z.2.1).2.2.2.2.2⟩) ?_ ?_⟩
        · rintro j x σ H2 H3 hj ⟨⟨y7, rfl⟩, sJ, stJ⟩ ⟨T1, u1, u2, rfl, hT, rfl, hx1, hx2⟩
          replace hx1 : (row1.map V.int)[j]? = some u1 := hx1
          replace hx2 : (row2.map V.int)[j]? = some u2 := hx2
          rw [List.getElem?_map] at hx1 hx2
          obtain ⟨a, ha, rfl⟩ := Option.map_eq_some_iff.mp hx1
          obtain ⟨b, hb, rfl⟩ := Option.map_eq_some_iff.mp hx2
          have hcs : cs[j]? = some (a, b) := by
            rw [ecs, List.getElem?_zip_eq_some]
            exact ⟨ha, hb⟩
          obtain ⟨stN, patN⟩ := stJ.new hT (x := a) (y := b)
          have sN := sJ.trans (same_new (o := .tup [V.int a, V.int b]) hT)
          have eT : addAll P0 (cs.take (j + 1)) = addOne (addAll P0 (cs.take j)) (a, b) := by
            rw [List.take_add_one, hcs]
            exact addAll_snoc _ _ _
          have lT : (addAll P0 (cs.take j)).length ≤ 200 := by
            have := addAll_len (cs.take j) P0
            rw [List.length_take] at this
            omega
          generalize upd H2 T1 (.tup [V.int a, V.int b]) = G3 at *
          refine ⟨_, rfl, _, rfl, ipD (a, b), _, patN.dp, stN.dp, ip_shape _, ip_shapes _, _, rfl, ite2 (fun hm => ?_) fun hm => ?_⟩
          · rw [ip_any] at hm
            have hm : (a, b) ∉ addAll P0 (cs.take j) := by simpa using hm
            obtain ⟨ps3, q1, q2⟩ := stN.ps
            have eq : ps3.length = (addAll P0 (cs.take j)).length := paired_len q2
            refine ⟨_, rfl, .inl ⟨rfl, _, SqL.of q1⟩, _, rfl, pp, ps3, .ref T1, rfl, rfl, q1, small1000 (by omega), ⟨_, rfl⟩, fun x o z => ?_, ?_⟩
            · rw [upd_ne (ne_of_none z nHp)]
              exact sN _ _ z
            · rw [eT, addOne, if_neg hm]
              exact stN.addP q1 patN
          · rw [ip_any] at hm
            have hm : (a, b) ∈ addAll P0 (cs.take j) := by simpa using hm
            refine ⟨⟨_, rfl⟩, sN, ?_⟩
            rw [eT, addOne, if_pos hm]
            exact stN
        · rintro σ H2 ⟨⟨y7', rfl⟩, sJ, stJ⟩
          rw [List.take_of_length_le (by omega)] at stJ
          obtain ⟨ovs, o1, o2⟩ := stJ.os
          have eol : ovs.length = R0.length := paired_len o2
          obtain ⟨t1, t2, t3, t4, t5, t6⟩ := qA sJ
          refine ⟨_, rfl, .inl ⟨rfl, _, SqL.of o1⟩, ?_⟩
          refine ⟨_, rfl, p, _, 1, .ref pr, rfl, rfl, t1, atI_nat (j := 1) rfl, _, rfl, pr, rvs, c.1, .ref x1, rfl, rfl, t2, at1, ?_⟩
          refine ⟨_, rfl, q, _, 1, .ref qr, rfl, rfl, t4, atI_nat (j := 1) rfl, _, rfl, qr, qvs, c.2, .ref x2, rfl, rfl, t5, at2, ?_⟩
          refine ⟨x1, x2, row1.map V.int, row2.map V.int, rfl, t3, t6, fun D hD => lc_it (wt (G := H1)) (fun j H' => Same H2 H' ∧ H' D = some (.lst ((rowOf (addAll P0 cs) (cs.take j)).map V.int))) ⟨same_new hD, upd_same⟩
            (fun j H' _ z => ⟨(qA (sJ.trans z.1)).2.2.1, (qA (sJ.trans z.1)).2.2.2.2.2⟩) ?_ ?_⟩
          · rintro j x H3 H4 hj ⟨s3, l3⟩ ⟨T1, u1, u2, rfl, hT, rfl, hx1, hx2⟩
            replace hx1 : (row1.map V.int)[j]? = some u1 := hx1
            replace hx2 : (row2.map V.int)[j]? = some u2 := hx2
            rw [List.getElem?_map] at hx1 hx2
            obtain ⟨a, ha, rfl⟩ := Option.map_eq_some_iff.mp hx1
            obtain ⟨b, hb, rfl⟩ := Option.map_eq_some_iff.mp hx2
            have hcs : cs[j]? = some (a, b) := by
              rw [ecs, List.getElem?_zip_eq_some]
              exact ⟨ha, hb⟩
            have hDT : D ≠ T1 := ne_of_none l3 hT
            obtain ⟨stN, patN⟩ := (stJ.same s3).new hT (x := a) (y := b)
            have sN := s3.trans (same_new (o := .tup [V.int a, V.int b]) hT)
            have l4 := same_new (o := .tup [V.int a, V.int b]) hT _ _ l3
            generalize upd H3 T1 (.tup [V.int a, V.int b]) = G3 at *
            obtain ⟨ps3, q1, q2⟩ := stN.ps
            have hmem : (a, b) ∈ addAll P0 cs := addAll_mem.mpr (.inr (List.mem_of_getElem? hcs))
            obtain ⟨i1, i2⟩ := idx_first hmem
            refine ⟨rfl, _, rfl, .inl ⟨rfl, _, SqL.of q1⟩, _, rfl, pp, .ref T1, ipD (a, b), _, _, _, rfl, rfl, stN.dp, patN.dp, ip_shapes _, ip_shape _, i1, by rw [ip_eqv]; exact decide_eq_true rfl, i2, _, l4, ?_, fun x o z => ?_, ?_⟩
            · rw [rowOf, List.length_map, List.length_map, List.length_take]
              exact small1000 (by omega)
            · rw [upd_ne (ne_of_none z hD)]
              exact sN _ _ z
            · rw [upd_same, List.take_add_one, hcs, rowOf, rowOf, List.map_append, List.map_append]
              rfl
          · rintro H3 ⟨s3, l3⟩
            rw [List.take_of_length_le (by omega)] at l3
            refine ⟨D, _, rfl, .inl ⟨SqL.of l3, fun qn hqn => ?_⟩⟩
            have s4 := s3.trans (same_new (o := .tup ((rowOf (addAll P0 cs) cs).map V.int)) hqn)
            have st4 := stJ.same s4
            have ra : RowAt B' (upd H3 qn (.tup ((rowOf (addAll P0 cs) cs).map V.int))) (.ref qn) (rowOf (addAll P0 cs) cs) := ⟨qn, rfl, tb_off (stJ.same s3).tb hqn, .inl upd_same⟩
            refine ⟨po, ovs, .ref qn, rfl, rfl, s4 _ _ o1, small1000 (by omega), ⟨_, _, _, _, rfl⟩, fun x o z => ?_, ?_⟩
            · rw [upd_ne (ne_of_none z nHo)]
              exact s4 _ _ (sJ _ _ z)
            · rw [eit]
              exact st4.addO (s4 _ _ o1) ra
      · have hlt : ¬ ((0 : Int) + i < pvs.length) := fun z => hlt (decide_eq_true z)
        have e2 : iterT r1 r2 (i + 1) = iterT r1 r2 i := by
          show stepT r1 r2 (iterT r1 r2 i) = _
          have hn : (iterT r1 r2 i).1[(iterT r1 r2 i).2.length]? = none := List.getElem?_eq_none (by rcases TI.at_ with z | z <;> omega)
          unfold stepT
          rw [hn]
        refine ⟨⟨_, _, _, _, rfl⟩, sI, ?_⟩
        rw [e2]
        exact st
    · rintro σ H1 ⟨⟨y4, y5, y6, y7, rfl⟩, sI, st⟩
      rw [show ((r1.length * r2.length : Nat) : Int).toNat = r1.length * r2.length from Int.toNat_natCast _] at st
      have TI := inv (r1.length * r2.length)
      have elen := then_len TI
      replace st : LSt B' pp po (thenP r1 r2, thenR r1 r2) H1 := st
      have hbd : ∀ c ∈ thenP r1 r2, 0 ≤ c.1 ∧ c.1 < (r1.length : Int) ∧ 0 ≤ c.2 ∧ c.2 < (r2.length : Int) := TI.bd
      have hPl : (thenP r1 r2).length ≤ 90 := Nat.le_trans (bd_len TI.nd TI.bd) m90
      have hne : 1 ≤ (thenP r1 r2).length := TI.ne
      have hrw : ∀ r ∈ thenR r1 r2, r.length = wide L ∧ ∀ x ∈ r, 0 ≤ x ∧ x < ((thenP r1 r2).length : Int) := TI.rw
      obtain ⟨pvs, p1, p2⟩ := st.ps
      replace p2 : Paired (PAt B' H1) pvs (thenP r1 r2) := p2
      have epl : pvs.length = (thenP r1 r2).length := paired_len p2
      have hBB : ∀ b, B b → B' b := fun b z => by
        rw [← hB']
        exact .inl (.inl z)
      have l1 : d1.length = r1.length := c1.vl
      have l2 : d2.length = r2.length := c2.vl
      refine ⟨_, rfl, pp, rfl, ⟨_, SqL.of p1⟩, fun D hD => ?_⟩
      refine lc_list (K := K) (a := pp) (xs := pvs) (fun j H' => Same H1 H' ∧ H' D = some (.lst (((thenD r1 r2 d1 d2).take j).map V.int))) ⟨same_new hD, upd_same⟩ (fun j H' _ z => SqL.of (z.1 _ _ p1)) ?_ ?_
      · rintro j x H2 hx ⟨s2, l2'⟩
        obtain ⟨c, hc, qc, rfl, nqc, rqc⟩ := paired_at' p2 hx
        have hcb := hbd c (List.mem_of_getElem? hc)
        have sH := sI.trans s2
        have m1 : c.1.toNat < d1.length := by omega
        have m2 : c.2.toNat < d2.length := by omega
        have at1 := at_ints m1
        have at2 := at_ints m2
        rw [show ((c.1.toNat : Nat) : Int) = c.1 by omega] at at1
        rw [show ((c.2.toNat : Nat) : Int) = c.2 by omega] at at2
        have t1 : SqT K H2 p [.int L, .ref pr, .ref pd] := same_seqT sH (.inl h1)
        have t3 : SqT K H2 pd (d1.map V.int) := same_seqT sH (.inl h3)
        have t4 : SqT K H2 q [.int L, .ref qr, .ref qd] := same_seqT sH (.inl h1')
        have t6 : SqT K H2 qd (d2.map V.int) := same_seqT sH (.inl h3')
        have ev : (thenD r1 r2 d1 d2)[j]? = some (verd d1 d2 c) := by rw [thenD, List.getElem?_map, hc]; rfl
        have fin : ∀ x : Int, x = verd d1 d2 c → ∃ acc, H2 D = some (.lst acc) ∧ acc.length < sizeLine ∧ Same H1 (upd H2 D (.lst (acc ++ [V.int x]))) ∧ (upd H2 D (.lst (acc ++ [V.int x]))) D = some (.lst (((thenD r1 r2 d1 d2).take (j + 1)).map V.int)) := fun x hx => by
          refine ⟨_, l2', ?_, fun y o z => ?_, ?_⟩
          · rw [List.length_map, List.length_take, thenD, List.length_map]
            exact small1000 (by omega)
          · rw [upd_ne (ne_of_none z hD)]
            exact s2 _ _ z
          · rw [upd_same, List.take_add_one, ev, hx, List.map_append]
            rfl
        refine ⟨qc, _, rfl, .inl (same_rd s2 rqc), rfl, _, _, rfl, _, _, rfl, rfl, rfl, ?_⟩
        refine ⟨_, rfl, p, _, 2, .ref pd, rfl, rfl, t1, atI_nat (j := 2) rfl, _, rfl, pd, _, c.1, _, rfl, rfl, t3, at1, rfl, _, rfl, ite2 (fun hz => ?_) fun hz => ?_⟩
        · rw [dec_int] at hz
          have hz : d1.getD c.1.toNat 0 ≠ 0 := by simpa using hz
          exact ⟨_, rfl, p, _, 2, .ref pd, rfl, rfl, t1, atI_nat (j := 2) rfl, _, rfl, pd, _, c.1, _, rfl, rfl, t3, at1, fin _ (if_pos hz).symm⟩
        · rw [dec_int] at hz
          have hz : ¬ d1.getD c.1.toNat 0 ≠ 0 := by simpa using hz
          exact ⟨_, rfl, q, _, 2, .ref qd, rfl, rfl, t4, atI_nat (j := 2) rfl, _, rfl, qd, _, c.2, _, rfl, rfl, t6, at2, fin _ (if_neg hz).symm⟩
      · rintro H2 ⟨s2, l2'⟩
        have eld : (thenD r1 r2 d1 d2).length = (thenP r1 r2).length := by rw [thenD, List.length_map]
        rw [List.take_of_length_le (by omega)] at l2'
        have sH := sI.trans s2
        have st2 := st.same s2
        obtain ⟨ovs, o1, o2⟩ := st2.os
        replace o2 : Paired (RowAt B' H2) ovs (thenR r1 r2) := o2
        refine ⟨_, rfl, p, _, 0, .int L, rfl, rfl, same_seqT sH (.inl h1), atI_nat (j := 0) rfl, ?_⟩
        refine ⟨_, rfl, po, ovs, rfl, .inl ⟨SqL.of o1, fun qa hqa => ?_⟩⟩
        have sa := same_new (o := .tup ovs) hqa
        have ra : Rd (upd H2 qa (.tup ovs)) qa (.tup ovs) := .inl upd_same
        have na := tb_off (tb_same sH tb) hqa
        have sA := sH.trans sa
        have lD := sa _ _ l2'
        generalize upd H2 qa (.tup ovs) = G3 at *
        refine ⟨_, rfl, D, _, rfl, .inl ⟨SqL.of lD, fun qb hqb => ?_⟩⟩
        have sb := same_new (o := .tup ((thenD r1 r2 d1 d2).map V.int)) hqb
        have rb : Rd (upd G3 qb (.tup ((thenD r1 r2 d1 d2).map V.int))) qb (.tup ((thenD r1 r2 d1 d2).map V.int)) := .inl upd_same
        have nb := tb_off (tb_same sA tb) hqb
        have sB' := sA.trans sb
        generalize upd G3 qb (.tup ((thenD r1 r2 d1 d2).map V.int)) = G4 at *
        refine ⟨by show 3 ≤ sizeLine; decide, fun qf hqf => ?_⟩
        have sf := same_new (o := .tup [.int L, .ref qa, .ref qb]) hqf
        have nf := tb_off (tb_same sB' tb) hqf
        refine k _ _ (sB'.trans sf) ⟨⟨qf, qa, qb, ovs, rfl, nf, na, nb, .inl upd_same, same_rd (sb.trans sf) ra, same_rd sf rb, paired_imp (fun _ _ h => RowAt.weak hBB (RowAt.keep (Keep.same (sa.trans (sb.trans sf))) h)) o2⟩, c1.L1, c1.L3, by omega, by omega, fun r hr => ?_, by omega, fun x hx => ?_⟩
        · rw [elen]
          exact hrw r hr
        · obtain ⟨c, hc, rfl⟩ := List.mem_map.mp hx
          have hcb := hbd c hc
          have v1 : d1.getD c.1.toNat 0 ∈ d1 := by
            rw [List.getD_eq_getElem?_getD, List.getElem?_eq_getElem (by omega)]
            exact List.getElem_mem _
          have v2 : d2.getD c.2.toNat 0 ∈ d2 := by
            rw [List.getD_eq_getElem?_getD, List.getElem?_eq_getElem (by omega)]
            exact List.getElem_mem _
          unfold verd
          split
          · exact c1.vb _ v1
          · exact c2.vb _ v2
end
/-! ### a dict written with one entry, its key a tuple -/
def tDict1 (tk tv : TE) : TE := fun σ H Q => ∀ p, H p = none → tk σ (upd H p (.dT [])) fun x H1 => tv σ H1 fun y H2 => H2 p = some (.dT []) ∧ ∃ (k : List Key) (b : Addr), x = .ref b ∧ H2 b = some (.tup (k.map kV)) ∧ Q (.ref p) (upd H2 p (.dT [(k, y)]))
theorem pe_dict1 {X : Cx} {pos : Pos} {ke ve : Expr} {tk tv : TE} (hu : X.A.units < cLine) (hk : PE X ke tk) (hv : PE X ve tv) : PE X (.Dict [some ke] [ve] pos) (tDict1 tk tv) := by
  refine ⟨fun pins s σ H Q I q => ?_⟩
  have hn := I.hok.fresh (Nat.le_refl s.heap.objs.size)
  have I1 := I.laid (a := s.heap.objs.size) (o := .dT []) (h' := s.heap.push { cls := .type "dict", data := .dict #[] }) (t' := s.toks) (fun _ _ q => Heap.get?_push_of_some _ q) (Nat.le_refl _) (dt_empty s.heap I.big)
  have q1 := q _ hn
  rw [arm_eval_Dict, zip_pairTrees [some ke] [ve] X.env pos rfl rfl, dictDisplay_pairs _ (by simp [pairTrees]) (by simp [pairTrees])]
  refine wpAny_bind (wpAny_standAt (wpAny_bind (wpAny_subDictH (knd := tupleKind (mixKind X.prog X.w)) (Q := fun d s' => wpAny (model X.prog X.w) X.A (pure (Value.ref d)) (EP X pins σ Q) X.xe s') hu (by simp [pairTrees]) ?_)))
  refine wpAny_mono ((pps_cons hk hv (pps_nil (X := X) (pos := pos))).run pins _ σ _ (fun ps H2 => match ps with
    | [(x, y)] => H2 s.heap.objs.size = some (.dT []) ∧ ∃ (k : List Key) (b : Addr), x = .ref b ∧ H2 b = some (.tup (k.map kV)) ∧ Q (.ref s.heap.objs.size) (upd H2 s.heap.objs.size (.dT [(k, y)]))
    | _ => False) I1 q1) (fun vs s2 hh => ?_) fun _ _ e => e
  obtain ⟨ps, H2, I2, rel, qq⟩ := hh
  match ps, rel, qq with
  | [(x, y)], rel, qq =>
    obtain ⟨e, k, b, rfl, eb, q2⟩ := qq
    cases rel with
    | @cons a c as bs r1 r2 =>
      cases r2
      obtain ⟨u, w2⟩ := c
      cases (show u = Value.ref b from r1.1)
      obtain ⟨z, hd, xs, kt, dd⟩ := dt_of I2.hok e
      cases kt
      refine ⟨[(k, b, w2)], ⟨rfl, rfl, key_of I2.hok eb, trivial⟩, dd, fun h' tk' dd' hs => wpAny_pure ?_⟩
      obtain ⟨o, es, ep, hq, d2, d3, d4, _, d5⟩ := dd'
      have rel2 : KT H2 (putK [] k y) (storedH [] k b w2) := KT.put .nil k eb r1.2
      refine ⟨.ref s.heap.objs.size, _, d_write (t' := tk') (ob := .dT [(k, y)]) I2 (by rw [e]; exact True.intro) hs ⟨o, hq⟩ ⟨(by decide : 1 ≤ sizeLine), hd, _, rel2.keeps fun c ys ec => ?_, o, es, ep, hq, d2, d3, d4, d5⟩, rfl, q2⟩
      rw [upd_ne (ne_of ec e (fun z => nomatch z))]
      exact ec
/-! ### then -/
section
variable {X : Cx}
theorem pmk_own0 {C : Addr} {bmB : List Value} {B newId initId : String} {x : Str} {p pos : Pos} (F : ExcBaseFacts B newId initId bmB) (q : PySem.W.excIn X.K C bmB newId = true) (gC : X.mg x = some (.ref C)) (kC : PySem.W.keepIn X.K (.ref C) = true) (r : Raises X (.ref C)) (hg : Gl X x)
    (hdb : (x == ("__debug__" : Str)) = false := by decide) : PMk X (.Call (.Name x p) [] [] pos) (fun _ H Q => Q (.ref C) none H) := by
  intro pins s σ H Q I h
  refine wpAny_Call_Name_kw (ld_glob I hg gC ?_ hdb)
  refine PySem.W.callWith_K0 I.kIn kC ?_
  show wpAny _ _ (call (.ref C) []) _ _ _
  obtain ⟨bm, N, nm, qn, bs, hdct, sn, sub, ab, col, dd, k0, k1, k2, k3, k5, mN, hC, hN, hni, T⟩ := exc_obj I.kIn q
  exact wpAny_call_exc_subT F T hC hN hni (fun h' e hm => mk_of I hm r h (I.hok.gone hm.new)) (Nat.zero_le _)
end
def kk (c : IP) : List Key := [Sum.inl c.1, Sum.inl c.2]
theorem kk_inj {a b : IP} (h : kk a = kk b) : a = b := by
  simp only [kk, List.cons.injEq, Sum.inl.injEq, and_true] at h
  exact Prod.ext h.1 h.2
def NumOk (kvs : List (List Key × V)) (P : List IP) : Prop := kvs.length ≤ P.length ∧ ∀ c, valV kvs (kk c) = if c ∈ P then some (.int ((P.idxOf c : Nat) : Int)) else none
theorem num_start : NumOk [(kk (0, 0), V.int 0)] [(0, 0)] := by
  refine ⟨Nat.le_refl _, fun c => ?_⟩
  by_cases h : c = (0, 0)
  · subst h
    rw [if_pos (List.mem_singleton.mpr rfl), valV_pos rfl]
    simp [List.idxOf_cons]
  · rw [if_neg (fun z => h (List.mem_singleton.mp z)), valV_neg (fun z => h (kk_inj z).symm)]
    rfl
theorem num_add {kvs : List (List Key × V)} {P : List IP} {c : IP} (h : NumOk kvs P) (n : c ∉ P) : NumOk (putK kvs (kk c) (.int (P.length : Int))) (P ++ [c]) := by
  refine ⟨?_, fun x => ?_⟩
  · have := length_putK kvs (kk c) (.int (P.length : Int))
    rw [List.length_append, List.length_singleton]
    have := h.1
    omega
  · rw [valV_put]
    by_cases e : x = c
    · subst e
      rw [if_pos rfl, if_pos (List.mem_append_right _ (List.mem_singleton.mpr rfl)), List.idxOf_append, if_neg n]
      simp [List.idxOf_cons]
    · rw [if_neg (fun z => e (kk_inj z)), h.2 x]
      by_cases m : x ∈ P
      · rw [if_pos m, if_pos (List.mem_append_left _ m), List.idxOf_append, if_pos m]
      · rw [if_neg m, if_neg]
        intro z
        rcases List.mem_append.mp z with z | z
        · exact m z
        · exact e (List.mem_singleton.mp z)
theorem idx_pre {A Bl : List IP} {c : IP} (h : A <+: Bl) (m : c ∈ A) : Bl.idxOf c = A.idxOf c := by
  obtain ⟨t, rfl⟩ := h
  rw [List.idxOf_append, if_pos m]
theorem addAll_more {P cs : List IP} {j : Nat} : addAll P (cs.take j) <+: addAll P cs := by
  have e : addAll P cs = addAll (addAll P (cs.take j)) (cs.drop j) := by
    unfold addAll
    rw [← List.foldl_append, List.take_append_drop]
  rw [e]
  exact addAll_pre
theorem not_tup {H : Hp} {x : Addr} {xs : List V} (h : H x = some (.lst xs)) : ∀ r, ¬ Rd H x (.tup r) := fun r z => by
  rcases z with z | ⟨u, z⟩ <;> (rw [h] at z; cases z)
theorem not_tupD {H : Hp} {x : Addr} {kvs : List (List Key × V)} (h : H x = some (.dT kvs)) : ∀ r, ¬ Rd H x (.tup r) := fun r z => by
  rcases z with z | ⟨u, z⟩ <;> (rw [h] at z; cases z)
theorem rd_upd {H : Hp} {x a : Addr} {o : HO} {r : List V} (n : ∀ r, ¬ Rd H x (.tup r)) (h : Rd H a (.tup r)) : Rd (upd H x o) a (.tup r) := by
  have ne : a ≠ x := fun e => n r (e ▸ h)
  rcases h with h | ⟨u, h⟩
  · exact .inl (by rw [upd_ne ne]; exact h)
  · exact .inr ⟨u, by rw [upd_ne ne]; exact h⟩
theorem LSt.store {B : Addr → Prop} {pp po x : Addr} {P : List IP} {R : List (List Int)} {H : Hp} {o : HO} (h : LSt B pp po (P, R) H) (n : ∀ r, ¬ Rd H x (.tup r)) (e1 : pp ≠ x) (e2 : po ≠ x) : LSt B pp po (P, R) (upd H x o) := by
  obtain ⟨np, no, ne, tb, ⟨pvs, p1, p2⟩, ⟨ovs, o1, o2⟩⟩ := h
  have k : ∀ (v : V) (r : List Int), RowAt B H v r → RowAt B (upd H x o) v r := fun v r ⟨q, e, nb, h⟩ => ⟨q, e, nb, rd_upd n h⟩
  exact ⟨np, no, ne, tb_upd tb, ⟨pvs, by rw [upd_ne e1]; exact p1, paired_imp (fun _ _ => k _ _) p2⟩, ⟨ovs, by rw [upd_ne e2]; exact o1, paired_imp (fun _ _ => k _ _) o2⟩⟩
theorem step_len {r1 r2 : List (List Int)} (s : List IP × List (List Int)) : s.1.length ≤ (stepT r1 r2 s).1.length := by
  unfold stepT
  split
  · exact Nat.le_refl _
  · exact (addAll_pre).length_le
theorem iter_mono {r1 r2 : List (List Int)} (n : Nat) : ∀ m, (iterT r1 r2 n).1.length ≤ (iterT r1 r2 (n + m)).1.length
  | 0 => Nat.le_refl _
  | m + 1 => Nat.le_trans (iter_mono n m) (step_len _)
theorem iter_stall {r1 r2 : List (List Int)} {n : Nat} (h : (iterT r1 r2 n).1.length ≤ (iterT r1 r2 n).2.length) : ∀ m, iterT r1 r2 (n + m) = iterT r1 r2 n
  | 0 => rfl
  | m + 1 => by
    show stepT r1 r2 (iterT r1 r2 (n + m)) = _
    rw [iter_stall h m]
    unfold stepT
    rw [List.getElem?_eq_none h]
/-- what is written of an own error -/
structure ErT (K : PySem.W.Frag) (mg : Str → Option Value) (x : Str) (C : Addr) : Prop where
  xP : PySem.W.excIn K C [.type "ValueError", .type "Exception", .type "BaseException", .type "object"] "ValueError.__new__" = true
  gP : mg x = some (.ref C)
  kP : PySem.W.keepIn K (.ref C) = true
  bP : PySem.W.subIn K (.ref C) (.type "BaseException") = some true
  tP : PySem.W.typeIn K (.ref C) = some (.type "type")
section
variable {P : Program} {w : World} {K : PySem.W.Frag} {mg : Str → Option Value} {base : Heap}
theorem scThen : FnScope ["one", "other", "numbers", "pairs", "rows", "left", "right", "row", "pair", "verdicts"] ["one", "other"] (defScope sThen) := ⟨rfl, rfl, rfl, by decide +kernel, rfl, by decide +kernel, by decide +kernel⟩
def spThen (CU CG : Addr) : Sp := fun vs H Q E => ∃ (B : Addr → Prop) (v1 v2 : V) (L1 L2 : Int) (r1 r2 : List (List Int)) (d1 d2 : List Int), vs = [v1, v2] ∧ CAt B H v1 L1 r1 d1 ∧ CAt B H v2 L2 r2 d2 ∧ TB B H ∧ r1.length * r2.length ≤ 90 ∧
  (L1 ≠ L2 → E (.ref CU) none H) ∧ (L1 = L2 → (thenR r1 r2).length ≤ 60 → ∀ H' v, Same H H' → CAt B H' v L1 (thenR r1 r2) (thenD r1 r2 d1 d2) → Q v H') ∧ (L1 = L2 → 60 < (thenR r1 r2).length → ∀ H', Same H H' → E (.ref CG) none H')
theorem ok_then {f CU CG : Addr} {fd : FuncData} (F : Fun K "then" "then" sThen f fd) (T : Mg mg) (TU : ErT K mg "Unlike" CU) (TG : ErT K mg "TooGreat" CG) : FnOk P w K mg base (L2.CX P w) 1 f fd ["one", "other"] (spThen CU CG) := by
  refine F.okX scThen (fun vs H Q E h => ?_) (fun cdv A outer s H vs Q E hr h => ?_)
  · obtain ⟨B, v1, v2, L1, L2, r1, r2, d1, d2, rfl, _⟩ := h
    rfl
  · obtain ⟨B, v1, v2, L1, L2, r1, r2, d1, d2, rfl, c1, c2, tb, m90, kU, k, kG⟩ := h
    obtain ⟨p, pr, pd, rvs, rfl, n1, n2, n3, h1, h2, h3, h4⟩ := c1.at_
    obtain ⟨q, qr, qd, qvs, rfl, n1', n2', n3', h1', h2', h3', h4'⟩ := c2.at_
    obtain ⟨tm, hms⟩ := T.ms
    have hu : (A.deeper (envOfC "then" (defScope sThen) s.heap.objs.size f cdv)).units + 65 < cLine := by have := hr.un; omega
    have hu0 : (A.deeper (envOfC "then" (defScope sThen) s.heap.objs.size f cdv)).units < cLine := by omega
    have hu1 : (A.deeper (envOfC "then" (defScope sThen) s.heap.objs.size f cdv)).units + 1 < cLine := by omega
    refine ⟨_, pss_cons (ps_if (pt_cmpR op_ne (pe_ix (r := rIxT K) ix_tup (pv 0) pe_int (fun _ _ => rfl)) (pe_ix (r := rIxT K) ix_tup (pv 1) pe_int (fun _ _ => rfl)) (nomark _))
        (pss_one (ps_raise rfl (takes_of rfl rfl rfl rfl) (pmk_own0 PySem.F.excBase_ValueError TU.xP TU.gP TU.kP (raises_own TU.bP TU.tP) (by exact rfl)))) pss_nil)
      (pss_cons (ps_set (i := 2) scThen.nd rfl (.inl rfl) (pe_dict1 hu0 (pe_tup (pa_cons pe_int (pa_cons pe_int pa_nil))) pe_int))
      (pss_cons (ps_set (i := 3) scThen.nd rfl (.inl rfl) (pe_lstA (pa_cons (pe_tup (pa_cons pe_int (pa_cons pe_int pa_nil))) pa_nil)))
      (pss_cons (ps_set (i := 4) scThen.nd rfl (.inl rfl) (pe_lstA pa_nil))
      (pss_cons (ps_while (passes_of rfl) (pt_cmpR op_lt (pe_callB (r := rLen K) call_len_seq (by rfl) T.len PySem.boot_len (pa_cons (pv 4) pa_nil)) (pe_callB (r := rLen K) call_len_seq (by rfl) T.len PySem.boot_len (pa_cons (pv 3) pa_nil)) (nomark _))
        (pss_cons (ps_asg (pe_ix (r := rIxL K) ix_list (pv 3) (pe_callB (r := rLen K) call_len_seq (by rfl) T.len PySem.boot_len (pa_cons (pv 4) pa_nil)) (fun _ _ => rfl)) (pg_tup rfl (pgs_cons (pg_name (i := 5) scThen.nd rfl (.inl rfl)) (pgs_cons (pg_name (i := 6) scThen.nd rfl (.inl rfl)) pgs_nil))))
        (pss_cons (ps_set (i := 7) scThen.nd rfl (.inl rfl) (pe_lstA pa_nil))
        (pss_cons (ps_for (passes_of rfl) rfl (pi_zipN (by rfl) T.zip (pa_cons (pe_ix (r := rIxT K) ix_tup (pe_ix (r := rIxT K) ix_tup (pv 0) pe_int (fun _ _ => rfl)) (pv 5) (fun _ _ => rfl)) (pa_cons (pe_ix (r := rIxT K) ix_tup (pe_ix (r := rIxT K) ix_tup (pv 1) pe_int (fun _ _ => rfl)) (pv 6) (fun _ _ => rfl)) pa_nil))) (pg_name (i := 8) scThen.nd rfl (.inl rfl))
          (pss_cons (ps_if (pt_cmp (pc_dnotin hu1 (pv 8) (pv 2))) (pss_cons (ps_dput hu1 (pv 2) (pv 8) (pe_callB (r := rLen K) call_len_seq (by rfl) T.len PySem.boot_len (pa_cons (pv 3) pa_nil)) rfl)
              (pss_one (ps_expr (pe_bm PySem.F.plainAttrs_list PySem.F.slot_list_append PySem.F.type_list_append mt_append (pv 3) (pa_cons (pv 8) pa_nil))))) pss_nil)
          (pss_one (ps_expr (pe_bm PySem.F.plainAttrs_list PySem.F.slot_list_append PySem.F.type_list_append mt_append (pv 7) (pa_cons (pe_dget hu1 (pv 2) (pv 8) (fun _ _ => rfl)) pa_nil))))))
        (pss_cons (ps_if (pt_cmpR op_gt (pe_callB (r := rLen K) call_len_seq (by rfl) T.len PySem.boot_len (pa_cons (pv 3) pa_nil)) (pe_glob (v := .int 60) (by rfl) hms ⟨_, rfl⟩) (nomark _))
            (pss_one (ps_raise rfl (takes_of rfl rfl rfl rfl) (pmk_own0 PySem.F.excBase_ValueError TG.xP TG.gP TG.kP (raises_own TG.bP TG.tP) (by exact rfl)))) pss_nil)
        (pss_one (ps_expr (pe_bm PySem.F.plainAttrs_list PySem.F.slot_list_append PySem.F.type_list_append mt_append (pv 4) (pa_cons (pe_callTy (r := rTup K) call_tuple_of (by rfl) T.tuple PyProof.Rows.boot_tuple (pa_cons (pv 7) pa_nil)) pa_nil)))))))))
      (pss_cons (ps_setLc (i := 9) (own := [("left", 5), ("right", 6)]) (g := gTup K 2 (gCons (gName 5) (gCons (gName 6) gNil))) (tt := tYes) rfl scThen.nd rfl rfl (sw_true rfl rfl rfl (by decide +kernel)) (pi_list (pv 3)) (blkOk_by (N := ["one", "other", "numbers", "pairs", "rows", "left", "right", "row", "pair", "verdicts"]) (sc := defScope sThen) (by decide +kernel))
          (fun _ _ _ _ _ => pg_tup rfl (pgs_cons (pg_name (i := 5) scThen.nd rfl (Or.inl rfl)) (pgs_cons (pg_name (i := 6) scThen.nd rfl (Or.inl rfl)) pgs_nil))) (fun _ _ _ _ _ => pts_nil)
          (fun _ _ _ _ _ => pe_ifExp (pt_cmpR op_ne (pe_ix (r := rIxT K) ix_tup (pe_ix (r := rIxT K) ix_tup (pv 0) pe_int (fun _ _ => rfl)) (pv 5) (fun _ _ => rfl)) pe_int (nomark _)) (pe_ix (r := rIxT K) ix_tup (pe_ix (r := rIxT K) ix_tup (pv 0) pe_int (fun _ _ => rfl)) (pv 5) (fun _ _ => rfl)) (pe_ix (r := rIxT K) ix_tup (pe_ix (r := rIxT K) ix_tup (pv 1) pe_int (fun _ _ => rfl)) (pv 6) (fun _ _ => rfl))))
      (pss_one (ps_ret (pe_tup (pa_cons (pe_ix (r := rIxT K) ix_tup (pv 0) pe_int (fun _ _ => rfl)) (pa_cons (pe_callTy (r := rTup K) call_tuple_of (by rfl) T.tuple PyProof.Rows.boot_tuple (pa_cons (pv 4) pa_nil)) (pa_cons (pe_callTy (r := rTup K) call_tuple_of (by rfl) T.tuple PyProof.Rows.boot_tuple (pa_cons (pv 9) pa_nil)) pa_nil))))))))))), ?_⟩
    refine ⟨_, rfl, p, _, 0, .int L1, rfl, rfl, .inl h1, atI_nat (j := 0) rfl, _, rfl, q, _, 0, .int L2, rfl, rfl, .inl h1', atI_nat (j := 0) rfl, rfl, _, rfl, ite2 (fun hz => ?_) fun hz => ?_⟩
    · exact kU fun e => by rw [e] at hz; simp at hz
    · have eL : L1 = L2 := by
        by_cases e : L1 = L2
        · exact e
        · exact absurd (by rw [dec_int, decide_eq_false e]; rfl) hz
      subst eL
      replace k := k rfl
      replace kG := kG rfl
      refine fun dn hdn => ⟨by show 2 ≤ sizeLine; decide, fun t0 ht0 => ⟨?_, kk (0, 0), t0, rfl, upd_same, ?_⟩⟩
      · rw [upd_ne (ne_of_none upd_same ht0)]
        exact upd_same
      have hd1 : H dn = none := hdn
      have sD : Same H (upd (upd (upd H dn (.dT [])) t0 (.tup [V.int 0, V.int 0])) dn (.dT [(kk (0, 0), V.int 0)])) := fun b o z => by
        have nb : b ≠ dn := ne_of_none z hdn
        rw [upd_ne nb]
        exact same_new (o := .tup [V.int 0, V.int 0]) ht0 _ _ (same_new (o := .dT []) hdn _ _ z)
      have ld : (upd (upd (upd H dn (.dT [])) t0 (.tup [V.int 0, V.int 0])) dn (.dT [(kk (0, 0), V.int 0)])) dn = some (.dT [(kk (0, 0), V.int 0)]) := upd_same
      generalize upd (upd (upd H dn (.dT [])) t0 (.tup [V.int 0, V.int 0])) dn (.dT [(kk (0, 0), V.int 0)]) = G0 at *
      refine ⟨by show 2 ≤ sizeLine; decide, fun t1 ht1 => ⟨by show 1 ≤ sizeLine; decide, fun pp G1 s1 np _ lp => ⟨by show 0 ≤ sizeLine; decide, fun po G2 s2 no _ lo => ?_⟩⟩⟩
      have s0 := same_new (o := .tup [V.int 0, V.int 0]) ht1
      have r0 : Rd (upd G0 t1 (.tup [V.int 0, V.int 0])) t1 (.tup [V.int 0, V.int 0]) := .inl upd_same
      have ld2 := s2 _ _ (s1 _ _ (s0 _ _ ld))
      have sC : Same H G2 := sD.trans (s0.trans (s1.trans s2))
      have nt1 := tb_off (tb_same sD tb) ht1
      have hHp : H pp = none := (sD.trans s0).free np
      have hHo : H po = none := (sD.trans (s0.trans s1)).free no
      have t1p : t1 ≠ pp := ne_of_none upd_same np
      have t1o : t1 ≠ po := ne_of_none (s1 _ _ upd_same) no
      have t1d : t1 ≠ dn := fun e => by rw [e, ld] at ht1; cases ht1
      have lp2 := s2 _ _ lp
      have hpo : pp ≠ po := ne_of_none lp no
      have hdp : dn ≠ pp := ne_of_none (s0 _ _ ld) np
      have hdo : dn ≠ po := ne_of_none (s1 _ _ (s0 _ _ ld)) no
      have r02 := same_rd (s1.trans s2) r0
      have b1 : r1.length ≤ 90 := c1.r61
      have b2 : r2.length ≤ 90 := c2.r61
      have inv := iter_inv c1.rw c2.rw c1.r1 c2.r1
      have tbB : TB (fun b => (B b ∨ b = pp) ∨ b = po) G2 := fun b z e => by
        rcases z with (z | z) | z
        · exact tb_same sC tb b z e
        · rw [z, lp2] at e; cases e
        · rw [z, lo] at e; cases e
      have st0 : LSt (fun b => (B b ∨ b = pp) ∨ b = po) pp po ([(0, 0)], []) G2 := ⟨.inl (.inr rfl), .inr rfl, hpo, tbB, ⟨_, lp2, .cons ⟨t1, rfl, fun z => z.elim (fun z => z.elim nt1 t1p) t1o, r02⟩ .nil⟩, ⟨_, lo, .nil⟩⟩
      generalize hB' : (fun b => (B b ∨ b = pp) ∨ b = po) = B' at *
      refine while_by (fun σ H' => ∃ n y5 y6 y7 y8, σ = [some (.ref p), some (.ref q), some (V.ref dn), some (V.ref pp), some (V.ref po), y5, y6, y7, y8, none] ∧ Same H H' ∧ LSt B' pp po (iterT r1 r2 n) H' ∧ (iterT r1 r2 n).2.length = n ∧ (iterT r1 r2 n).1.length ≤ 60 ∧ ∃ kvs, H' dn = some (.dT kvs) ∧ NumOk kvs (iterT r1 r2 n).1)
        (fun _ H' => match H' po with
          | some (.lst xs) => 91 - xs.length
          | _ => 0) ⟨0, none, none, none, none, rfl, sC, st0, rfl, by show 1 ≤ 60; decide, _, ld2, num_start⟩ ?_ ?_
      · rintro σ H1 ⟨n, y5, y6, y7, y8, rfl, sI, st, hn, h60, kvs, hk, nk⟩
        replace st : LSt B' pp po ((iterT r1 r2 n).1, (iterT r1 r2 n).2) H1 := st
        have TI := inv n
        obtain ⟨pvs, p1, p2⟩ := st.ps
        replace p2 : Paired (PAt B' H1) pvs (iterT r1 r2 n).1 := p2
        have epl : pvs.length = (iterT r1 r2 n).1.length := paired_len p2
        obtain ⟨ovs, o1, o2⟩ := st.os
        replace o2 : Paired (RowAt B' H1) ovs (iterT r1 r2 n).2 := o2
        have eol : ovs.length = (iterT r1 r2 n).2.length := paired_len o2
        have hP90 : (iterT r1 r2 n).1.length ≤ r1.length * r2.length := bd_len TI.nd TI.bd
        refine ⟨_, rfl, po, ovs, rfl, .inl (SqL.of o1), _, rfl, pp, pvs, rfl, .inl (SqL.of p1), _, _, rfl, rfl, _, rfl, ite2 (fun hlt => ?_) fun hlt => ?_⟩
        · have hlt := of_decide_eq_true hlt
          have hi2 : n < (iterT r1 r2 n).1.length := by omega
          have hc : (iterT r1 r2 n).1[(iterT r1 r2 n).2.length]? = some ((iterT r1 r2 n).1[n]) := by rw [hn]; exact List.getElem?_eq_getElem hi2
          have es := step_at (r1 := r1) (r2 := r2) hc
          have hcb := TI.bd _ (List.mem_of_getElem? hc)
          obtain ⟨cv, hcv, qc, rfl, nqc, rqc⟩ := paired_at (i := n) p2 (List.getElem?_eq_getElem hi2)
          generalize (iterT r1 r2 n).1[n] = c at *
          have eit : iterT r1 r2 (n + 1) = stepT r1 r2 (iterT r1 r2 n) := rfl
          rw [es] at eit
          have big : 60 < (iterT r1 r2 (n + 1)).1.length → 60 < (thenR r1 r2).length := fun z => by
            have TJ := inv (r1.length * r2.length)
            rw [then_len TJ]
            obtain ⟨m, hm⟩ : ∃ m, r1.length * r2.length = n + 1 + m := ⟨r1.length * r2.length - (n + 1), by omega⟩
            have := iter_mono (r1 := r1) (r2 := r2) (n + 1) m
            rw [← hm] at this
            exact Nat.lt_of_lt_of_le z this
          have TK := inv (n + 1)
          generalize (iterT r1 r2 n).1 = P0 at *
          generalize (iterT r1 r2 n).2 = R0 at *
          have g1 : r1[c.1.toNat]? = some (r1.getD c.1.toNat []) := by
            rw [List.getD_eq_getElem?_getD, List.getElem?_eq_getElem (by omega)]
            rfl
          have g2 : r2[c.2.toNat]? = some (r2.getD c.2.toNat []) := by
            rw [List.getD_eq_getElem?_getD, List.getElem?_eq_getElem (by omega)]
            rfl
          obtain ⟨w1, _⟩ := c1.rw _ (List.mem_of_getElem? g1)
          obtain ⟨w2, _⟩ := c2.rw _ (List.mem_of_getElem? g2)
          obtain ⟨v1, hv1, x1, rfl, nx1, rx1⟩ := paired_at h4 g1
          obtain ⟨v2, hv2, x2, rfl, nx2, rx2⟩ := paired_at h4' g2
          have ecs : colsP r1 r2 c = (r1.getD c.1.toNat []).zip (r2.getD c.2.toNat []) := rfl
          generalize r1.getD c.1.toNat [] = row1 at *
          generalize r2.getD c.2.toNat [] = row2 at *
          generalize colsP r1 r2 c = cs at *
          have w15 : wide L1 ≤ 15 := by
            rcases L123 c1.L1 c1.L3 with e | e | e <;> (rw [e]; decide)
          have lcs : cs.length = wide L1 := by rw [ecs, List.length_zip, w1, w2, Nat.min_self]
          have k1 : c.1 = ((c.1.toNat : Nat) : Int) := by omega
          have k2 : c.2 = ((c.2.toNat : Nat) : Int) := by omega
          have at1 : atI rvs c.1 = some (.ref x1) := by rw [k1]; exact atI_nat hv1
          have at2 : atI qvs c.2 = some (.ref x2) := by rw [k2]; exact atI_nat hv2
          have atc : atI pvs ((ovs.length : Nat) : Int) = some (.ref qc) := by rw [eol, hn]; exact atI_nat hcv
          refine ⟨_, rfl, _, rfl, po, ovs, rfl, .inl (SqL.of o1), pp, pvs, _, .ref qc, rfl, rfl, SqL.of p1, atc, qc, _, rfl, .inl rqc, rfl, _, _, rfl, _, _, rfl, rfl, ?_⟩
          refine ⟨by show 0 ≤ sizeLine; decide, fun rl G1 s1' nr _ lr => ?_⟩
          have hHr : H rl = none := sI.free nr
          have rp : pp ≠ rl := ne_of_none p1 nr
          have ro : po ≠ rl := ne_of_none o1 nr
          have rd : dn ≠ rl := ne_of_none hk nr
          have sI1 := sI.trans s1'
          have st1 := st.same s1'
          have hk1 := s1' _ _ hk
          have qA : ∀ {G : Hp}, Same H G → SqT K G p [.int L1, .ref pr, .ref pd] ∧ SqT K G pr rvs ∧ SqT K G x1 (row1.map V.int) ∧ SqT K G q [.int L1, .ref qr, .ref qd] ∧ SqT K G qr qvs ∧ SqT K G x2 (row2.map V.int) := fun s =>
            ⟨same_seqT s (.inl h1), same_seqT s (.inl h2), same_seqT s (.inl rx1), same_seqT s (.inl h1'), same_seqT s (.inl h2'), same_seqT s (.inl rx2)⟩
          obtain ⟨t1', t2', t3', t4', t5', t6'⟩ := qA sI1
          refine ⟨_, rfl, p, _, 1, .ref pr, rfl, rfl, t1', atI_nat (j := 1) rfl, _, rfl, pr, rvs, c.1, .ref x1, rfl, rfl, t2', at1, ?_⟩
          refine ⟨_, rfl, q, _, 1, .ref qr, rfl, rfl, t4', atI_nat (j := 1) rfl, _, rfl, qr, qvs, c.2, .ref x2, rfl, rfl, t5', at2, ?_⟩
          have wt : Walk (RZ.ItzT K x1 x2) (wide L1) (fun H => SqT K H x1 (row1.map V.int) ∧ SqT K H x2 (row2.map V.int)) (YPair (fun i => (row1.map V.int)[i]?) (fun i => (row2.map V.int)[i]?)) := walk_zipT (by rw [List.length_map, w1]) (by rw [List.length_map, w2])
          refine ⟨x1, x2, row1.map V.int, row2.map V.int, rfl, t3', t6', for_it wt (fun j σ H' => (∃ y8, σ = [some (.ref p), some (.ref q), some (V.ref dn), some (V.ref pp), some (V.ref po), some (V.int c.1), some (V.int c.2), some (V.ref rl), y8, none]) ∧ Same H H' ∧ LSt B' pp po (addAll P0 (cs.take j), R0) H' ∧ (∃ kvs, H' dn = some (.dT kvs) ∧ NumOk kvs (addAll P0 (cs.take j))) ∧ H' rl = some (.lst ((rowOf (addAll P0 cs) (cs.take j)).map V.int)))
            ⟨⟨y8, rfl⟩, sI1, by rw [List.take_zero]; exact st1, ⟨kvs, hk1, by rw [List.take_zero]; exact nk⟩, by rw [List.take_zero]; exact lr⟩ (fun j σ H' _ z => ⟨(qA z.2.1).2.2.1, (qA z.2.1).2.2.2.2.2⟩) ?_ ?_⟩
          · rintro j x σ H2 H3 hj ⟨⟨y8, rfl⟩, sJ, stJ, ⟨kvs, hkJ, nkJ⟩, lrJ⟩ ⟨T1, u1, u2, rfl, hT, rfl, hx1, hx2⟩
            replace hx1 : (row1.map V.int)[j]? = some u1 := hx1
            replace hx2 : (row2.map V.int)[j]? = some u2 := hx2
            rw [List.getElem?_map] at hx1 hx2
            obtain ⟨a, ha, rfl⟩ := Option.map_eq_some_iff.mp hx1
            obtain ⟨b, hb, rfl⟩ := Option.map_eq_some_iff.mp hx2
            have hcs : cs[j]? = some (a, b) := by
              rw [ecs, List.getElem?_zip_eq_some]
              exact ⟨ha, hb⟩
            obtain ⟨stN, patN⟩ := stJ.new hT (x := a) (y := b)
            have sT := same_new (o := .tup [V.int a, V.int b]) hT
            have sN := sJ.trans sT
            have hk3 := sT _ _ hkJ
            have lr3 := sT _ _ lrJ
            have eb : (upd H2 T1 (.tup [V.int a, V.int b])) T1 = some (.tup ((kk (a, b)).map kV)) := upd_same
            have eT : addAll P0 (cs.take (j + 1)) = addOne (addAll P0 (cs.take j)) (a, b) := by
              rw [List.take_add_one, hcs]
              exact addAll_snoc _ _ _
            have lT : (addAll P0 (cs.take j)).length ≤ 200 := by
              have := addAll_len (cs.take j) P0
              rw [List.length_take] at this
              omega
            have hin : (a, b) ∈ addAll P0 (cs.take (j + 1)) := by rw [eT]; exact addOne_mem.mpr (.inr rfl)
            have eix : (addAll P0 cs).idxOf (a, b) = (addAll P0 (cs.take (j + 1))).idxOf (a, b) := idx_pre addAll_more hin
            have er : ((rowOf (addAll P0 cs) (cs.take j)).map V.int) ++ [V.int (((addAll P0 cs).idxOf (a, b) : Nat) : Int)] = (rowOf (addAll P0 cs) (cs.take (j + 1))).map V.int := by
              rw [List.take_add_one, hcs, rowOf, rowOf, List.map_append, List.map_append]
              rfl
            have tl : ∀ {G : Hp} {ks : List (List Key × V)}, Same H G → LSt B' pp po (addAll P0 (cs.take (j + 1)), R0) G → G dn = some (.dT ks) → NumOk ks (addAll P0 (cs.take (j + 1))) → G rl = some (.lst ((rowOf (addAll P0 cs) (cs.take j)).map V.int)) → G T1 = some (.tup ((kk (a, b)).map kV)) →
                DGet G dn (.ref T1) (some (.int (((addAll P0 cs).idxOf (a, b) : Nat) : Int))) ∧ ((rowOf (addAll P0 cs) (cs.take j)).map V.int).length < sizeLine ∧ Same H (upd G rl (.lst (((rowOf (addAll P0 cs) (cs.take j)).map V.int) ++ [V.int (((addAll P0 cs).idxOf (a, b) : Nat) : Int)]))) ∧
                LSt B' pp po (addAll P0 (cs.take (j + 1)), R0) (upd G rl (.lst (((rowOf (addAll P0 cs) (cs.take j)).map V.int) ++ [V.int (((addAll P0 cs).idxOf (a, b) : Nat) : Int)]))) ∧ (∃ ks, (upd G rl (.lst (((rowOf (addAll P0 cs) (cs.take j)).map V.int) ++ [V.int (((addAll P0 cs).idxOf (a, b) : Nat) : Int)]))) dn = some (.dT ks) ∧ NumOk ks (addAll P0 (cs.take (j + 1)))) ∧
                (upd G rl (.lst (((rowOf (addAll P0 cs) (cs.take j)).map V.int) ++ [V.int (((addAll P0 cs).idxOf (a, b) : Nat) : Int)]))) rl = some (.lst ((rowOf (addAll P0 cs) (cs.take (j + 1))).map V.int)) := fun {G ks} sG stG kG nG lG eG => by
              refine ⟨?_, ?_, fun x o z => ?_, stG.store (not_tup lG) rp ro, ⟨ks, ?_, nG⟩, ?_⟩
              · have g := DGet.t kG eG
                rw [nG.2 (a, b), if_pos hin, ← eix] at g
                exact g
              · rw [List.length_map, rowOf, List.length_map, List.length_take]
                exact small1000 (by omega)
              · rw [upd_ne (ne_of_none z hHr)]
                exact sG _ _ z
              · rw [upd_ne rd]
                exact kG
              · rw [upd_same, er]
            generalize upd H2 T1 (.tup [V.int a, V.int b]) = G3 at *
            refine ⟨_, rfl, _, rfl, dn, _, rfl, DGet.t hk3 eb, _, rfl, ite2 (fun hm => ?_) fun hm => ?_⟩
            · rw [nkJ.2 (a, b)] at hm
              have hm : (a, b) ∉ addAll P0 (cs.take j) := fun z => by rw [if_pos z] at hm; cases hm
              obtain ⟨ps3, q1, q2⟩ := stN.ps
              have eq : ps3.length = (addAll P0 (cs.take j)).length := paired_len q2
              have eA : addAll P0 (cs.take (j + 1)) = addAll P0 (cs.take j) ++ [(a, b)] := by rw [eT, addOne, if_neg hm]
              refine ⟨_, rfl, pp, ps3, rfl, .inl (SqL.of q1), _, rfl, _, rfl, dn, _, rfl, DPut.t hk3 eb (small1000 (by have := nkJ.1; omega)), ?_⟩
              have nk4 := num_add nkJ hm
              rw [← eA, ← eq] at nk4
              have st4 := stN.store (o := .dT (putK kvs (kk (a, b)) (.int (ps3.length : Int)))) (not_tupD hk3) (Ne.symm hdp) (Ne.symm hdo)
              have pat4 : PAt B' (upd G3 dn (.dT (putK kvs (kk (a, b)) (.int (ps3.length : Int))))) (.ref T1) (a, b) := by
                obtain ⟨t, e, nb, h⟩ := patN
                exact ⟨t, e, nb, rd_upd (not_tupD hk3) h⟩
              have s4 : Same H (upd G3 dn (.dT (putK kvs (kk (a, b)) (.int (ps3.length : Int))))) := fun x o z => by
                rw [upd_ne (ne_of_none z hd1)]
                exact sN _ _ z
              have q14 : (upd G3 dn (.dT (putK kvs (kk (a, b)) (.int (ps3.length : Int))))) pp = some (.lst ps3) := by rw [upd_ne (Ne.symm hdp)]; exact q1
              have k4 : (upd G3 dn (.dT (putK kvs (kk (a, b)) (.int (ps3.length : Int))))) dn = some (.dT (putK kvs (kk (a, b)) (.int (ps3.length : Int)))) := upd_same
              have l4 : (upd G3 dn (.dT (putK kvs (kk (a, b)) (.int (ps3.length : Int))))) rl = some (.lst ((rowOf (addAll P0 cs) (cs.take j)).map V.int)) := by rw [upd_ne (Ne.symm rd)]; exact lr3
              have eb4 : (upd G3 dn (.dT (putK kvs (kk (a, b)) (.int (ps3.length : Int))))) T1 = some (.tup ((kk (a, b)).map kV)) := by rw [upd_ne (fun e => by rw [e, hk3] at eb; cases eb)]; exact eb
              generalize upd G3 dn (.dT (putK kvs (kk (a, b)) (.int (ps3.length : Int)))) = G4 at *
              refine ⟨_, rfl, .inl ⟨rfl, _, SqL.of q14⟩, _, rfl, pp, ps3, .ref T1, rfl, rfl, q14, small1000 (by omega), ?_⟩
              have st5 := st4.addP q14 pat4
              rw [← eA] at st5
              have s5 : Same H (upd G4 pp (.lst (ps3 ++ [V.ref T1]))) := fun x o z => by
                rw [upd_ne (ne_of_none z hHp)]
                exact s4 _ _ z
              obtain ⟨f1, f2, f3, f4, f5, f6⟩ := tl s5 st5 (by rw [upd_ne hdp]; exact k4) nk4 (by rw [upd_ne (Ne.symm rp)]; exact l4) (by rw [upd_ne (fun e => by rw [e, q14] at eb4; cases eb4)]; exact eb4)
              have l5 : (upd G4 pp (.lst (ps3 ++ [V.ref T1]))) rl = some (.lst ((rowOf (addAll P0 cs) (cs.take j)).map V.int)) := by rw [upd_ne (Ne.symm rp)]; exact l4
              exact ⟨_, rfl, .inl ⟨rfl, _, SqL.of l5⟩, _, rfl, _, rfl, dn, _, rfl, f1, rl, _, _, rfl, rfl, l5, f2, ⟨_, rfl⟩, f3, f4, f5, f6⟩
            · rw [nkJ.2 (a, b)] at hm
              have hm : (a, b) ∈ addAll P0 (cs.take j) := by
                by_cases z : (a, b) ∈ addAll P0 (cs.take j)
                · exact z
                · rw [if_neg z] at hm; exact absurd rfl hm
              have eA : addAll P0 (cs.take (j + 1)) = addAll P0 (cs.take j) := by rw [eT, addOne, if_pos hm]
              obtain ⟨f1, f2, f3, f4, f5, f6⟩ := tl sN (by rw [eA]; exact stN) hk3 (by rw [eA]; exact nkJ) lr3 eb
              exact ⟨_, rfl, .inl ⟨rfl, _, SqL.of lr3⟩, _, rfl, _, rfl, dn, _, rfl, f1, rl, _, _, rfl, rfl, lr3, f2, ⟨_, rfl⟩, f3, f4, f5, f6⟩
          · rintro σ H2 ⟨⟨y8', rfl⟩, sJ, stJ, ⟨kvs', hkJ, nkJ⟩, lrJ⟩
            rw [List.take_of_length_le (by omega)] at stJ nkJ lrJ
            obtain ⟨ps3, q1, q2⟩ := stJ.ps
            have eq : ps3.length = (addAll P0 cs).length := paired_len q2
            obtain ⟨os3, u1, u2⟩ := stJ.os
            have eo : os3.length = R0.length := paired_len u2
            have eP1 : (iterT r1 r2 (n + 1)).1 = addAll P0 cs := congrArg Prod.fst eit
            refine ⟨_, rfl, pp, ps3, rfl, .inl (SqL.of q1), _, _, rfl, rfl, _, rfl, ite2 (fun hg => ?_) fun hg => ?_⟩
            · have hg := of_decide_eq_true hg
              exact kG (big (by rw [eP1]; omega)) _ sJ
            · have hg : ¬ ((ps3.length : Int) > 60) := fun z => hg (decide_eq_true z)
              refine ⟨_, rfl, .inl ⟨rfl, _, SqL.of u1⟩, _, rfl, rl, _, rfl, .inl ⟨SqL.of lrJ, fun qn hqn => ?_⟩⟩
              have sQ := same_new (o := .tup ((rowOf (addAll P0 cs) cs).map V.int)) hqn
              have st4 := stJ.same sQ
              have ra : RowAt B' (upd H2 qn (.tup ((rowOf (addAll P0 cs) cs).map V.int))) (.ref qn) (rowOf (addAll P0 cs) cs) := ⟨qn, rfl, tb_off stJ.tb hqn, .inl upd_same⟩
              have u4 := sQ _ _ u1
              have k4 := sQ _ _ hkJ
              have s4 := sJ.trans sQ
              generalize upd H2 qn (.tup ((rowOf (addAll P0 cs) cs).map V.int)) = G4 at *
              refine ⟨po, os3, .ref qn, rfl, rfl, u4, small1000 (by omega), ⟨n + 1, _, _, _, _, rfl, fun x o z => ?_, ?_, ?_, ?_, kvs', ?_, ?_⟩, ?_⟩
              · rw [upd_ne (ne_of_none z hHo)]
                exact s4 _ _ z
              · rw [eit]
                exact st4.addO u4 ra
              · rw [eit]
                show (R0 ++ [_]).length = n + 1
                rw [List.length_append, List.length_singleton, hn]
              · rw [eP1]
                omega
              · rw [upd_ne hdo]
                exact k4
              · rw [eP1]
                exact nkJ
              · simp only [upd_same, o1, List.length_append, List.length_singleton]
                omega
        · have hlt : ¬ ((ovs.length : Int) < (pvs.length : Int)) := fun z => hlt (decide_eq_true z)
          obtain ⟨m, hm⟩ : ∃ m, r1.length * r2.length = n + m := ⟨r1.length * r2.length - n, by have := TI.le; omega⟩
          have eI : iterT r1 r2 (r1.length * r2.length) = iterT r1 r2 n := by
            rw [hm]
            exact iter_stall (by omega) m
          have TJ := inv (r1.length * r2.length)
          have elen := then_len TJ
          have eP : thenP r1 r2 = (iterT r1 r2 n).1 := congrArg Prod.fst eI
          have eR : thenR r1 r2 = (iterT r1 r2 n).2 := congrArg Prod.snd eI
          rw [← eP, ← eR] at st
          rw [← eP] at p2 epl h60
          have hbd : ∀ c ∈ thenP r1 r2, 0 ≤ c.1 ∧ c.1 < (r1.length : Int) ∧ 0 ≤ c.2 ∧ c.2 < (r2.length : Int) := TJ.bd
          have hPl : (thenP r1 r2).length ≤ 90 := Nat.le_trans (bd_len TJ.nd TJ.bd) m90
          have hne : 1 ≤ (thenP r1 r2).length := TJ.ne
          have hrw : ∀ r ∈ thenR r1 r2, r.length = wide L1 ∧ ∀ x ∈ r, 0 ≤ x ∧ x < ((thenP r1 r2).length : Int) := TJ.rw
          replace k := k (by omega)
          clear hk nk o1 o2 eol
          have hBB : ∀ b, B b → B' b := fun b z => by
            rw [← hB']
            exact .inl (.inl z)
          have l1 : d1.length = r1.length := c1.vl
          have l2 : d2.length = r2.length := c2.vl
          refine ⟨_, rfl, pp, rfl, ⟨_, SqL.of p1⟩, fun D hD => ?_⟩
          refine lc_list (K := K) (a := pp) (xs := pvs) (fun j H' => Same H1 H' ∧ H' D = some (.lst (((thenD r1 r2 d1 d2).take j).map V.int))) ⟨same_new hD, upd_same⟩ (fun j H' _ z => SqL.of (z.1 _ _ p1)) ?_ ?_
          · rintro j x H2 hx ⟨s2, l2'⟩
            obtain ⟨c, hc, qc, rfl, nqc, rqc⟩ := paired_at' p2 hx
            have hcb := hbd c (List.mem_of_getElem? hc)
            have sH := sI.trans s2
            have m1 : c.1.toNat < d1.length := by omega
            have m2 : c.2.toNat < d2.length := by omega
            have at1 := at_ints m1
            have at2 := at_ints m2
            rw [show ((c.1.toNat : Nat) : Int) = c.1 by omega] at at1
            rw [show ((c.2.toNat : Nat) : Int) = c.2 by omega] at at2
            have t1 : SqT K H2 p [.int L1, .ref pr, .ref pd] := same_seqT sH (.inl h1)
            have t3 : SqT K H2 pd (d1.map V.int) := same_seqT sH (.inl h3)
            have t4 : SqT K H2 q [.int L1, .ref qr, .ref qd] := same_seqT sH (.inl h1')
            have t6 : SqT K H2 qd (d2.map V.int) := same_seqT sH (.inl h3')
            have ev : (thenD r1 r2 d1 d2)[j]? = some (verd d1 d2 c) := by rw [thenD, List.getElem?_map, hc]; rfl
            have fin : ∀ x : Int, x = verd d1 d2 c → ∃ acc, H2 D = some (.lst acc) ∧ acc.length < sizeLine ∧ Same H1 (upd H2 D (.lst (acc ++ [V.int x]))) ∧ (upd H2 D (.lst (acc ++ [V.int x]))) D = some (.lst (((thenD r1 r2 d1 d2).take (j + 1)).map V.int)) := fun x hx => by
              refine ⟨_, l2', ?_, fun y o z => ?_, ?_⟩
              · rw [List.length_map, List.length_take, thenD, List.length_map]
                exact small1000 (by omega)
              · rw [upd_ne (ne_of_none z hD)]
                exact s2 _ _ z
              · rw [upd_same, List.take_add_one, ev, hx, List.map_append]
                rfl
            refine ⟨qc, _, rfl, .inl (same_rd s2 rqc), rfl, _, _, rfl, _, _, rfl, rfl, rfl, ?_⟩
            refine ⟨_, rfl, p, _, 2, .ref pd, rfl, rfl, t1, atI_nat (j := 2) rfl, _, rfl, pd, _, c.1, _, rfl, rfl, t3, at1, rfl, _, rfl, ite2 (fun hz => ?_) fun hz => ?_⟩
            · rw [dec_int] at hz
              have hz : d1.getD c.1.toNat 0 ≠ 0 := by simpa using hz
              exact ⟨_, rfl, p, _, 2, .ref pd, rfl, rfl, t1, atI_nat (j := 2) rfl, _, rfl, pd, _, c.1, _, rfl, rfl, t3, at1, fin _ (if_pos hz).symm⟩
            · rw [dec_int] at hz
              have hz : ¬ d1.getD c.1.toNat 0 ≠ 0 := by simpa using hz
              exact ⟨_, rfl, q, _, 2, .ref qd, rfl, rfl, t4, atI_nat (j := 2) rfl, _, rfl, qd, _, c.2, _, rfl, rfl, t6, at2, fin _ (if_neg hz).symm⟩
          · rintro H2 ⟨s2, l2'⟩
            have eld : (thenD r1 r2 d1 d2).length = (thenP r1 r2).length := by rw [thenD, List.length_map]
            rw [List.take_of_length_le (by omega)] at l2'
            have sH := sI.trans s2
            have st2 := st.same s2
            obtain ⟨ovs, o1, o2⟩ := st2.os
            replace o2 : Paired (RowAt B' H2) ovs (thenR r1 r2) := o2
            refine ⟨_, rfl, p, _, 0, .int L1, rfl, rfl, same_seqT sH (.inl h1), atI_nat (j := 0) rfl, ?_⟩
            refine ⟨_, rfl, po, ovs, rfl, .inl ⟨SqL.of o1, fun qa hqa => ?_⟩⟩
            have sa := same_new (o := .tup ovs) hqa
            have ra : Rd (upd H2 qa (.tup ovs)) qa (.tup ovs) := .inl upd_same
            have na := tb_off (tb_same sH tb) hqa
            have sA := sH.trans sa
            have lD := sa _ _ l2'
            generalize upd H2 qa (.tup ovs) = G3 at *
            refine ⟨_, rfl, D, _, rfl, .inl ⟨SqL.of lD, fun qb hqb => ?_⟩⟩
            have sb := same_new (o := .tup ((thenD r1 r2 d1 d2).map V.int)) hqb
            have rb : Rd (upd G3 qb (.tup ((thenD r1 r2 d1 d2).map V.int))) qb (.tup ((thenD r1 r2 d1 d2).map V.int)) := .inl upd_same
            have nb := tb_off (tb_same sA tb) hqb
            have sB' := sA.trans sb
            generalize upd G3 qb (.tup ((thenD r1 r2 d1 d2).map V.int)) = G4 at *
            refine ⟨by show 3 ≤ sizeLine; decide, fun qf hqf => ?_⟩
            have sf := same_new (o := .tup [.int L1, .ref qa, .ref qb]) hqf
            have nf := tb_off (tb_same sB' tb) hqf
            refine k _ _ (sB'.trans sf) ⟨⟨qf, qa, qb, ovs, rfl, nf, na, nb, .inl upd_same, same_rd (sb.trans sf) ra, same_rd sf rb, paired_imp (fun _ _ h => RowAt.weak hBB (RowAt.keep (Keep.same (sa.trans (sb.trans sf))) h)) o2⟩, c1.L1, c1.L3, by omega, by omega, fun r hr => ?_, by omega, fun x hx => ?_⟩
            · rw [elen]
              exact hrw r hr
            · obtain ⟨c, hc, rfl⟩ := List.mem_map.mp hx
              have hcb := hbd c hc
              have v1 : d1.getD c.1.toNat 0 ∈ d1 := by
                rw [List.getD_eq_getElem?_getD, List.getElem?_eq_getElem (by omega)]
                exact List.getElem_mem _
              have v2 : d2.getD c.2.toNat 0 ∈ d2 := by
                rw [List.getD_eq_getElem?_getD, List.getElem?_eq_getElem (by omega)]
                exact List.getElem_mem _
              unfold verd
              split
              · exact c1.vb _ v1
              · exact c2.vb _ v2
      · intro σ H Q Q' m h
        obtain ⟨a, e1, p, ys, e2, e3, b, e4, p2, ys2, e5, e6, i, j, e7, e8, kb, e9, h⟩ := h
        exact ⟨a, e1, p, ys, e2, e3, b, e4, p2, ys2, e5, e6, i, j, e7, e8, kb, e9, m _ _ h⟩
end
section
variable {P : Program} {w : World} {K : PySem.W.Frag} {mg : Str → Option Value} {base : Heap}
def toldD (L1 L2 : Int) (r1 r2 : List (List Int)) (d1 d2 : List Int) : PyData := if L1 ≠ L2 then .str "unlike" else if (thenR r1 r2).length ≤ 60 then compD L1 (thenR r1 r2) (thenD r1 r2 d1 d2) else .str "great"
def spTold (K : PySem.W.Frag) : Sp := fun vs H Q _ => ∃ (B : Addr → Prop) (v1 v2 : V) (L1 L2 : Int) (r1 r2 : List (List Int)) (d1 d2 : List Int), vs = [v1, v2] ∧ CAt B H v1 L1 r1 d1 ∧ CAt B H v2 L2 r2 d2 ∧ TB B H ∧ r1.length * r2.length ≤ 90 ∧
  ∀ H' v, Same H H' → Dt B K H' v (toldD L1 L2 r1 r2 d1 d2) → Q v H'
theorem scTold : FnScope ["_law_one_here", "_law_other"] ["_law_one_here", "_law_other"] (defScope sTold) := ⟨rfl, rfl, rfl, by decide +kernel, rfl, by decide +kernel, by decide +kernel⟩
theorem ok_told {f fT CU CG : Addr} {fd fdT : FuncData} (F : Fun K "_law_told" "_law_told" sTold f fd)
    (TN : FnOk P w K mg base (L2.CX P w) 1 fT fdT ["one", "other"] (spThen CU CG)) (FT : Fun K "then" "then" sThen fT fdT) (bT : Binds K fdT ["one", "other"] []) (gT : mg "then" = some (.ref fT))
    (gU : mg "Unlike" = some (.ref CU)) (gG : mg "TooGreat" = some (.ref CG)) (uu : PySem.W.exmOne K (.ref CU) (.ref CU) = some true) (gu : PySem.W.exmOne K (.ref CG) (.ref CU) = some false) (gg : PySem.W.exmOne K (.ref CG) (.ref CG) = some true) :
    FnOk P w K mg base CX0 2 f fd ["_law_one_here", "_law_other"] (spTold K) := by
  refine F.ok scTold (fun vs H Q E h => ?_) (fun cdv A outer s H vs Q E hr h => ?_)
  · obtain ⟨B, v1, v2, L1, L2, r1, r2, d1, d2, rfl, _⟩ := h
    rfl
  · obtain ⟨B, v1, v2, L1, L2, r1, r2, d1, d2, rfl, c1, c2, tb, m90, k⟩ := h
    refine ⟨_, pss_one (ps_try_many (tb := fun W => tRet (tCallS (spThen CU CG) (WE W) (tCons (tVar 0) (tCons (tVar 1) tNil)))) (l := [(.ref CU, fun _ _ _ => tRet (tC (.str "unlike"))), (.ref CG, fun _ _ _ => tRet (tC (.str "great")))]) (Wout := fun _ _ _ _ => False) rfl rfl takes0
      (fun W pn xe tk _ => pss_one (ps_ret (pe_callS TN hr (by exact rfl) gT FT.kp bT (fun σ => passAt tk σ) (by exact (pa_cons (pv 0) (pa_cons (pv 1) pa_nil))))))
      (.cons ⟨rfl, by decide, .inl gU⟩ (fun _ _ _ _ _ _ _ => pss_one (ps_ret pe_str)) (.cons ⟨rfl, by decide, .inl gG⟩ (fun _ _ _ _ _ _ _ => pss_one (ps_ret pe_str)) .nil))), ?_⟩
    have ht : L1 ≠ L2 → toldD L1 L2 r1 r2 d1 d2 = .str "unlike" := fun e => if_pos e
    have hc : L1 = L2 → (thenR r1 r2).length ≤ 60 → toldD L1 L2 r1 r2 d1 d2 = compD L1 (thenR r1 r2) (thenD r1 r2 d1 d2) := fun e z => (if_neg (fun y => y e)).trans (if_pos z)
    have hg : L1 = L2 → 60 < (thenR r1 r2).length → toldD L1 L2 r1 r2 d1 d2 = .str "great" := fun e z => (if_neg (fun y => y e)).trans (if_neg (by omega))
    refine ⟨_, rfl, _, rfl, B, v1, v2, L1, L2, r1, r2, d1, d2, rfl, c1, c2, tb, m90, fun e => ⟨true, uu, fun _ a ha => ?_, fun q => Bool.noConfusion q⟩, fun e z H' v s cm => ?_, fun e z H' s => ⟨false, gu, fun q => Bool.noConfusion q, fun _ => ⟨true, gg, fun _ a ha => ?_, fun q => Bool.noConfusion q⟩⟩⟩
    · exact k H _ (Same.refl H) (by rw [ht e]; exact .str _)
    · exact k H' v s (by rw [hc e z]; exact cm.dt)
    · exact k H' _ s (by rw [hg e z]; exact .str _)
theorem scDue : FnScope ["_law_one_here", "_law_other", "_law_found"] ["_law_one_here", "_law_other"] (defScope sDue) := ⟨rfl, rfl, rfl, by decide +kernel, rfl, by decide +kernel, by decide +kernel⟩
theorem ok_due {f fT : Addr} {fd fdT : FuncData} (F : Fun K "_law_due" "_law_due" sDue f fd)
    (TN : FnOk P w K mg base CX0 1 fT fdT ["_law_one_here", "_law_other"] spThenL) (FT : Fun K "_law_then" "_law_then" sThenL fT fdT) (bT : Binds K fdT ["_law_one_here", "_law_other"] []) (gT : mg "_law_then" = some (.ref fT)) (T : Mg mg) :
    FnOk P w K mg base CX0 2 f fd ["_law_one_here", "_law_other"] (spTold K) := by
  refine F.ok scDue (fun vs H Q E h => ?_) (fun cdv A outer s H vs Q E hr h => ?_)
  · obtain ⟨B, v1, v2, L1, L2, r1, r2, d1, d2, rfl, _⟩ := h
    rfl
  · obtain ⟨B, v1, v2, L1, L2, r1, r2, d1, d2, rfl, c1, c2, tb, m90, k⟩ := h
    obtain ⟨p, pr, pd, rvs, rfl, n1, n2, n3, h1, h2, h3, h4⟩ := c1.at_
    obtain ⟨q, qr, qd, qvs, rfl, n1', n2', n3', h1', h2', h3', h4'⟩ := c2.at_
    refine ⟨_, pss_cons (ps_if (pt_cmpR op_ne (pe_ix (r := rIxT K) ix_tup (pv 0) pe_int (fun _ _ => rfl)) (pe_ix (r := rIxT K) ix_tup (pv 1) pe_int (fun _ _ => rfl)) (nomark _)) (pss_one (ps_ret pe_str)) pss_nil)
      (pss_cons (ps_set (i := 2) scDue.nd rfl (.inl rfl) (pe_call TN hr (by rfl) gT FT.kp bT .nil pass0 (pa_cons (pv 0) (pa_cons (pv 1) pa_nil))))
      (pss_one (ps_ret (pe_ifExp (pt_cmpR op_le (pe_callB (r := rLen K) call_len_seq (by rfl) T.len PySem.boot_len (pa_cons (pe_ix (r := rIxT K) ix_tup (pv 2) pe_int (fun _ _ => rfl)) pa_nil)) pe_int (nomark _)) (pv 2) pe_str)))), ?_⟩
    refine ⟨_, rfl, p, _, 0, .int L1, rfl, rfl, .inl h1, atI_nat (j := 0) rfl, _, rfl, q, _, 0, .int L2, rfl, rfl, .inl h1', atI_nat (j := 0) rfl, rfl, _, rfl, ite2 (fun hz => ?_) fun hz => ?_⟩
    · have e : L1 ≠ L2 := fun e => by rw [e] at hz; simp at hz
      have ht : toldD L1 L2 r1 r2 d1 d2 = .str "unlike" := if_pos e
      exact k H _ (Same.refl H) (by rw [ht]; exact .str _)
    · have eL : L1 = L2 := by
        by_cases e : L1 = L2
        · exact e
        · exact absurd (by rw [dec_int, decide_eq_false e]; rfl) hz
      subst eL
      refine ⟨_, rfl, _, rfl, B, _, _, L1, r1, r2, d1, d2, rfl, c1, c2, tb, m90, fun H' v sH cm => ?_⟩
      obtain ⟨x, xr, xd, xvs, rfl, m1, m2, m3, g1, g2, g3, g4⟩ := cm.at_
      have el : xvs.length = (thenR r1 r2).length := paired_len g4
      refine ⟨_, rfl, x, _, 1, .ref xr, rfl, rfl, .inl g1, atI_nat (j := 1) rfl, xr, xvs, rfl, .inr (.inl g2), _, _, rfl, rfl, _, rfl, ite2 (fun hl => ?_) fun hl => ?_⟩
      · have hl := of_decide_eq_true hl
        have hc : toldD L1 L1 r1 r2 d1 d2 = compD L1 (thenR r1 r2) (thenD r1 r2 d1 d2) := (if_neg (fun y => y rfl)).trans (if_pos (by omega))
        exact ⟨_, rfl, k H' _ sH (by rw [hc]; exact cm.dt)⟩
      · have hl : ¬ ((xvs.length : Int) ≤ 60) := fun z => hl (decide_eq_true z)
        have hg : toldD L1 L1 r1 r2 d1 d2 = .str "great" := (if_neg (fun y => y rfl)).trans (if_neg (by omega))
        exact k H' _ sH (by rw [hg]; exact .str _)
end
section
variable {P : Program} {w : World} {K : PySem.W.Frag} {mg : Str → Option Value} {base : Heap}
theorem scOrder : FnScope ["_law_deck_here", "_law_letters", "_law_found", "_law_turn", "_law_wide", "_law_own", "_law_letter"] ["_law_deck_here", "_law_letters"] (defScope sOrder) := ⟨rfl, rfl, rfl, by decide +kernel, rfl, by decide +kernel, by decide +kernel⟩
def OrdAt (B : Addr → Prop) (N : Nat) (H : Hp) (v : V) : Prop := ∃ rws vds, CAt B H v N rws vds ∧ rws.length = 3
def spOrder : Sp := fun vs H Q _ => ∃ (a c : Addr) (cells : List Int) (n : Int) (N : Nat), vs = [.ref a, .int (N : Int)] ∧ DeckAt a c cells n H ∧ 0 ≤ n ∧ n ≤ 900000 ∧ 1 ≤ N ∧ N ≤ 3 ∧
  ∀ (H' : Hp) (cells' : List Int) (n' : Int) (v : V) (rws : List (List Int)) (vds : List Int), DeckAt a c cells' n' H' → n ≤ n' → n' ≤ n + 100 → Keep (Bd a c) H H' → CAt (Bd a c) H' v N rws vds → rws.length ≤ 9 → Q v H'
theorem ok_order {f fD fO fR fT fN : Addr} {fd fdD fdO fdR fdT fdN : FuncData} (F : Fun K "_law_order" "_law_order" sOrder f fd) (D : FnOk P w K mg base CX0 1 fD fdD ["_law_deck_here", "_law_most"] spDraw) (FD : Fun K "_law_draw" "_law_draw" sDraw fD fdD) (bD : Binds K fdD ["_law_deck_here", "_law_most"] []) (gD : mg "_law_draw" = some (.ref fD))
    (O : FnOk P w K mg base CX0 2 fO fdO ["_law_deck_here", "_law_items"] (spOne K)) (FO : Fun K "_law_one" "_law_one" sOne fO fdO) (bO : Binds K fdO ["_law_deck_here", "_law_items"] []) (gO : mg "_law_one" = some (.ref fO))
    (R : FnOk P w K mg base CX0 2 fR fdR ["_law_letters", "_law_ranks"] (spRankedL K)) (FR : Fun K "_law_ranked" "_law_ranked" sRankedL fR fdR) (bR : Binds K fdR ["_law_letters", "_law_ranks"] []) (gR : mg "_law_ranked" = some (.ref fR))
    (TL : FnOk P w K mg base CX0 1 fT fdT ["_law_comp_here"] (spTurned K)) (FT : Fun K "_law_turned" "_law_turned" sTurnedL fT fdT) (bT : Binds K fdT ["_law_comp_here"] []) (gT : mg "_law_turned" = some (.ref fT))
    (TN : FnOk P w K mg base CX0 1 fN fdN ["_law_one_here", "_law_other"] spThenL) (FN : Fun K "_law_then" "_law_then" sThenL fN fdN) (bN : Binds K fdN ["_law_one_here", "_law_other"] []) (gN : mg "_law_then" = some (.ref fN)) (T : Mg mg) :
    FnOk P w K mg base CX0 3 f fd ["_law_deck_here", "_law_letters"] spOrder := by
  refine F.ok scOrder (fun vs H Q E h => ?_) (fun cdv A outer s H vs Q E hr h => ?_)
  · obtain ⟨a, c, cells, n, N, rfl, _⟩ := h
    rfl
  · obtain ⟨a, c, cells, n, N, rfl, dk, n0, n1, N1, N3, k⟩ := h
    refine ⟨_, pss_cons (ps_set (i := 2) scOrder.nd rfl (.inl rfl) (pe_lstA pa_nil))
      (pss_cons (ps_for PassesOwn.never rfl (pi_range1 (by rfl) T.range (pa_cons (pe_op op_add pe_int (pe_call D (hr.mono (by decide)) (by rfl) gD FD.kp bD .nil pass0 (pa_cons (pv 0) (pa_cons pe_int pa_nil)))) pa_nil)) (pg_name (i := 3) scOrder.nd rfl (.inl rfl))
        (pss_cons (ps_set (i := 4) scOrder.nd rfl (.inr rfl) (pe_call O hr (by rfl) gO FO.kp bO .nil pass0 (pa_cons (pv 0) (pa_cons (pe_lstA (pa_cons pe_int (pa_cons pe_int (pa_cons pe_int pa_nil)))) pa_nil))))
        (pss_cons (ps_set (i := 5) scOrder.nd rfl (.inl rfl) (pe_call R hr (by rfl) gR FR.kp bR .nil pass0 (pa_cons (pv 1) (pa_cons (pe_lc (own := [("_law_letter", 6)]) (g := gName 6) (tt := tYes) rfl scOrder.nd (pi_range1 (by rfl) T.range (pa_cons (pv 1) pa_nil)) (blkOk_by (N := ["_law_deck_here", "_law_letters", "_law_found", "_law_turn", "_law_wide", "_law_own", "_law_letter"]) (sc := defScope sOrder) (by decide +kernel))
            (fun _ _ _ _ _ => pg_name (i := 6) scOrder.nd rfl (Or.inl rfl)) (fun _ _ _ _ _ => pts_nil) (fun _ _ _ _ _ => pe_call D (hr.mono (by decide)) (by rfl) gD FD.kp bD .nil pass0 (pa_cons (pv 0) (pa_cons (pv 4) pa_nil)))) pa_nil))))
        (pss_one (ps_expr (pe_bm PySem.F.plainAttrs_list PySem.F.slot_list_append PySem.F.type_list_append mt_append (pv 2) (pa_cons (pe_ifExp (pt_cmpR op_eq (pe_call D (hr.mono (by decide)) (by rfl) gD FD.kp bD .nil pass0 (pa_cons (pv 0) (pa_cons pe_int pa_nil))) pe_int (nomark _)) (pe_call TL (hr.mono (by decide)) (by rfl) gT FT.kp bT .nil pass0 (pa_cons (pv 5) pa_nil)) (pv 5)) pa_nil)))))))
      (pss_one (ps_ret (pe_ifExp (pt_cmpR op_eq (pe_callB (r := rLen K) call_len_seq (by rfl) T.len PySem.boot_len (pa_cons (pv 2) pa_nil)) pe_int (nomark _)) (pe_ix (r := rIxL K) ix_list (pv 2) pe_int (fun _ _ => rfl)) (pe_call TN (hr.mono (by decide)) (by rfl) gN FN.kp bN .nil pass0 (pa_cons (pe_ix (r := rIxL K) ix_list (pv 2) pe_int (fun _ _ => rfl)) (pa_cons (pe_ix (r := rIxL K) ix_list (pv 2) pe_int (fun _ _ => rfl)) pa_nil))))))), ?_⟩
    refine ⟨by show 0 ≤ sizeLine; decide, fun fp G s0 np _ lp => ?_⟩
    have dkG := deck_same s0 dk
    have nfp := deck_off dk np
    refine ⟨_, rfl, a, c, cells, n, 2, rfl, dkG, by decide, by decide, n0, by omega, fun H1 cells1 r r0' r2' dk1 k1 => ⟨1, r, rfl, rfl, ?_⟩⟩
    have lp1 := k1 _ _ nfp lp
    have kH1 : Keep (Bd a c) H H1 := (Keep.same s0).trans k1
    have nf : ¬ Bd a c fp := nfp
    refine ⟨_, rfl, by omega, by omega, for_range (lo := 0) (n := (1 + r).toNat) (fun i σ H' => (∃ y3 y4 y5, σ = [some (.ref a), some (V.int (N : Int)), some (V.ref fp), y3, y4, y5, none]) ∧ ∃ cells' n', DeckAt a c cells' n' H' ∧ n + 1 ≤ n' ∧ n' ≤ n + 1 + 10 * i ∧ Keep (Bd a c) H H' ∧ ∃ vs, H' fp = some (.lst vs) ∧ vs.length = i ∧ ∀ v ∈ vs, OrdAt (fun b => Bd a c b ∨ b = fp) N H' v)
      ⟨⟨none, none, none, rfl⟩, cells1, n + 1, dk1, by omega, by omega, kH1, [], lp1, rfl, fun v hv => absurd hv List.not_mem_nil⟩ ?_ ?_⟩
    · rintro i σ H2 hi ⟨⟨y3, y4, y5, rfl⟩, cells2, n2, dk2, e1, e2, kH, vs, lv, lvs, hvs⟩
      have hi2 : i ≤ 1 := by omega
      refine ⟨_, rfl, by show 3 ≤ sizeLine; decide, fun pl G2 s2 npl _ lpl => ?_⟩
      have dkA := deck_same s2 dk2
      refine ⟨a, c, pl, cells2, n2, _, rfl, dkA, by omega, by omega, SqL.of lpl, deck_off dk2 npl, List.cons_ne_nil _ _, by decide, fun H3 cells3 x hx dk3 k3 => ?_⟩
      obtain ⟨x0, rfl, hx0⟩ : ∃ x0 : Int, x = .int x0 ∧ 1 ≤ x0 ∧ x0 ≤ 3 := by
        simp only [List.mem_cons, List.not_mem_nil, or_false] at hx
        rcases hx with hx | hx | hx <;> exact ⟨_, hx, by decide, by decide⟩
      refine ⟨_, rfl, _, rfl, (N : Int), rfl, by omega, by omega, fun D2 hD2 => ?_⟩
      refine lc_range (lo := 0) (n := (N : Int).toNat) (CInv a c D2 H3 (Gk x0) (n2 + 1) 1) (cstart dk3 hD2) ?_ ?_
      · rintro j H4 hj ⟨cells4, n4, acc, dk4, g0, g1, k4, hD4, hl4, hG⟩
        refine ⟨rfl, _, rfl, _, rfl, a, c, cells4, n4, x0, rfl, dk4, by omega, by omega, by omega, by omega, fun H5 cells5 r r0 r3 dk5 k5 => ?_⟩
        exact cstep hD2 (deck_off dk3 hD2) (by omega) g0 g1 k4 hD4 hl4 hG dk5 (by omega) (by omega) k5 ⟨r, rfl, r0, r3⟩
      · rintro H4 ⟨cells4, n4, acc, dk4, g0, g1, k4, hD4, hl4, hG⟩
        obtain ⟨rs, rfl, hrs⟩ := gk_list hG
        rw [List.length_map] at hl4
        refine ⟨N, D2, rs, rfl, N1, N3, .inl (SqL.of hD4), by omega, fun H5 v s5 cm => ?_⟩
        have k24 : Keep (Bd a c) H2 H4 := ((Keep.same s2).trans k3).trans k4
        have lv4 := k24 _ _ nf lv
        have lv5 := s5 _ _ lv4
        have dk5 := deck_same s5 dk4
        have k25 := k24.trans (Keep.same s5)
        refine ⟨_, rfl, .inl ⟨rfl, _, SqL.of lv5⟩, ?_⟩
        have hOld : ∀ b, (Bd a c b ∨ b = fp) → Old H4 b := fun b z e => by
          rcases z with z | z
          · rcases z with z | z
            · rw [z, dk4.2.1] at e; cases e
            · rw [z, dk4.2.2.1] at e; cases e
          · rw [z, lv4] at e; cases e
        have fin : ∀ {H7 : Hp} {cells7 : List Int} {n7 : Int} {v7 : V} {rws : List (List Int)} {vds : List Int}, DeckAt a c cells7 n7 H7 → Keep (Bd a c) H2 H7 → CAt (fun b => Bd a c b ∨ b = fp) H7 v7 N rws vds → rws.length = 3 → n + 1 ≤ n7 → n7 ≤ n + 1 + 10 * ((i + 1 : Nat) : Int) →
            H7 fp = some (.lst vs) ∧ vs.length < sizeLine ∧ ∃ cells' n', DeckAt a c cells' n' (upd H7 fp (.lst (vs ++ [v7]))) ∧ n + 1 ≤ n' ∧ n' ≤ n + 1 + 10 * ((i + 1 : Nat) : Int) ∧ Keep (Bd a c) H (upd H7 fp (.lst (vs ++ [v7]))) ∧ ∃ us, (upd H7 fp (.lst (vs ++ [v7]))) fp = some (.lst us) ∧ us.length = i + 1 ∧ ∀ u ∈ us, OrdAt (fun b => Bd a c b ∨ b = fp) N (upd H7 fp (.lst (vs ++ [v7]))) u := fun {H7 cells7 n7 v7 rws vds} d7 k27 c7 l7 q1 q2 => by
          have ks : Keep (fun b => Bd a c b ∨ b = fp) H7 (upd H7 fp (.lst (vs ++ [v7]))) := keep_store (.inr rfl)
          refine ⟨k27 _ _ nf lv, small1000 (by omega), cells7, n7, deck_upd d7 nf, q1, q2, fun b o nb z => ?_, _, upd_same, by rw [List.length_append, List.length_singleton, lvs], fun u hu => ?_⟩
          · rw [upd_ne (ne_of_none z np)]
            exact k27 _ _ nb (kH _ _ nb z)
          · rcases List.mem_append.mp hu with z | z
            · obtain ⟨rws', vds', cu, lu⟩ := hvs u z
              exact ⟨rws', vds', (cu.keep (k27.wide fun b z => .inl z)).keep ks, lu⟩
            · rw [List.mem_singleton.mp z]
              exact ⟨rws, vds, c7.keep ks, l7⟩
        refine ⟨_, rfl, a, c, cells4, n4, 3, rfl, dk5, by decide, by decide, by omega, by omega, fun H6 cells6 r6 _ _ dk6 k6 => ⟨rfl, _, rfl, ite2 (fun _ => ?_) fun _ => ?_⟩⟩
        · have c6 := (cm.weak hOld).keep (k6.wide fun b z => .inl z)
          have k26 := k25.trans k6
          have tb6 : TB (fun b => Bd a c b ∨ b = fp) H6 := fun b z e => by
            rcases z with z | z
            · exact deck_off dk6 e z
            · rw [z, k26 _ _ nf lv] at e; cases e
          refine ⟨_, rfl, _, v, N, _, _, rfl, c6, tb6, fun H7 v7 s7 c7 => ?_⟩
          obtain ⟨f1, f2, f3⟩ := fin (deck_same s7 dk6) (k26.trans (Keep.same s7)) c7 rfl (by omega) (by omega)
          exact ⟨fp, vs, v7, rfl, rfl, f1, f2, ⟨_, _, _, rfl⟩, f3⟩
        · have c6 := (cm.weak hOld).keep (k6.wide fun b z => .inl z)
          obtain ⟨f1, f2, f3⟩ := fin dk6 (k25.trans k6) c6 rfl (by omega) (by omega)
          exact ⟨_, rfl, fp, vs, v, rfl, rfl, f1, f2, ⟨_, _, _, rfl⟩, f3⟩
    · rintro σ H2 ⟨⟨y3, y4, y5, rfl⟩, cells2, n2, dk2, e1, e2, kH, vs, lv, lvs, hvs⟩
      have hr2 : (1 + r).toNat = 1 ∨ (1 + r).toNat = 2 := by omega
      refine ⟨_, rfl, fp, vs, rfl, .inl (SqL.of lv), rfl, _, rfl, ite2 (fun h1 => ?_) fun h1 => ?_⟩
      · rw [dec_int] at h1
        have h1 : vs.length = 1 := by have := of_decide_eq_true h1; omega
        match vs, h1, lv, hvs with
        | [v], _, lv, hvs =>
          obtain ⟨rws, vds, cu, lu⟩ := hvs v List.mem_cons_self
          exact ⟨_, rfl, fp, [v], 0, v, rfl, rfl, SqL.of lv, atI_nat (j := 0) rfl, k H2 cells2 n2 v rws vds dk2 (by omega) (by omega) kH (cu.weak fun b z => .inl z) (by omega)⟩
      · rw [dec_int] at h1
        have h1 : vs.length = 2 := by
          have : ¬ ((vs.length : Int) = 1) := fun z => h1 (decide_eq_true z)
          omega
        match vs, h1, lv, hvs with
        | [v, v'], _, lv, hvs =>
          obtain ⟨rws, vds, cu, lu⟩ := hvs v List.mem_cons_self
          obtain ⟨rws', vds', cu', lu'⟩ := hvs v' (List.mem_cons_of_mem _ List.mem_cons_self)
          have tb2 : TB (fun b => Bd a c b ∨ b = fp) H2 := fun b z e => by
            rcases z with z | z
            · exact deck_off dk2 e z
            · rw [z, lv] at e; cases e
          have TI := iter_inv cu.rw cu'.rw cu.r1 cu'.r1 (rws.length * rws'.length)
          have l9 : (thenR rws rws').length ≤ rws.length * rws'.length := Nat.le_trans TI.le (bd_len TI.nd TI.bd)
          rw [lu, lu'] at l9
          refine ⟨_, rfl, fp, [v, v'], 0, v, rfl, rfl, SqL.of lv, atI_nat (j := 0) rfl, _, rfl, fp, [v, v'], 1, v', rfl, rfl, SqL.of lv, atI_nat (j := 1) rfl, ?_⟩
          exact ⟨_, v, v', N, rws, rws', vds, vds', rfl, cu, cu', tb2, by rw [lu, lu']; decide, fun H' u s' cm => k H' cells2 n2 u _ _ (deck_same s' dk2) (by omega) (by omega) (kH.trans (Keep.same s')) (cm.weak fun b z => .inl z) l9⟩
end
/-! ### what is shown of a comparison -/
def RepOk (d : PyData) : Prop := d.showable = true ∧ d.depth ≤ 60 ∧ d.shown.length ≤ sizeLine
structure Sm (N D : Nat) (d : PyData) : Prop where
  lay : d.canLay0 = true
  sho : d.intsShort 13 = true
  vis : d.showable = true
  dep : d.depth ≤ D
  wei : d.weight ≤ N
structure SmAll (N D : Nat) (ds : List PyData) : Prop where
  lay : PyData.canLayAll0 ds = true
  sho : PyData.intsShortAll 13 ds = true
  vis : PyData.showableAll ds = true
  dep : PyData.depthAll ds ≤ D
  wei : PyData.weightAll ds ≤ N
theorem SmAll.nil (N D : Nat) : SmAll N D [] := ⟨by simp [PyData.canLayAll0], by simp [PyData.intsShortAll], by simp [PyData.showableAll], by simp [PyData.depthAll], by simp [PyData.weightAll]⟩
theorem SmAll.cons {N M D : Nat} {d : PyData} {ds : List PyData} (h : Sm N D d) (t : SmAll M D ds) : SmAll (N + 1 + M) D (d :: ds) :=
  ⟨by simp [PyData.canLayAll0, h.lay, t.lay], by simp [PyData.intsShortAll, h.sho, t.sho], by simp [PyData.showableAll, h.vis, t.vis], by simp only [PyData.depthAll]; exact Nat.max_le.mpr ⟨h.dep, t.dep⟩, by
    simp only [PyData.weightAll]
    have := h.wei
    have := t.wei
    omega⟩
theorem SmAll.tup {N D : Nat} {ds : List PyData} (h : SmAll N D ds) : Sm N (D + 1) (.tuple ds) :=
  ⟨by simp [PyData.canLay0, h.lay], by simp [PyData.intsShort, h.sho], by simp [PyData.showable, h.vis], by simp only [PyData.depth]; have := h.dep; omega, by simp only [PyData.weight]; exact h.wei⟩
theorem SmAll.lst {N D : Nat} {ds : List PyData} (h : SmAll N D ds) : Sm N (D + 1) (.list ds) :=
  ⟨by simp [PyData.canLay0, h.lay], by simp [PyData.intsShort, h.sho], by simp [PyData.showable, h.vis], by simp only [PyData.depth]; have := h.dep; omega, by simp only [PyData.weight]; exact h.wei⟩
theorem SmAll.of {N D : Nat} : ∀ {ds : List PyData}, (∀ d ∈ ds, Sm N D d) → SmAll ((N + 1) * ds.length) D ds
  | [], _ => SmAll.nil _ _
  | d :: ds, h => by
    have := SmAll.cons (h d List.mem_cons_self) (SmAll.of fun x hx => h x (List.mem_cons_of_mem _ hx))
    rw [List.length_cons, Nat.mul_succ, Nat.add_comm ((N + 1) * ds.length)]
    exact this
theorem Sm.more {N M D E : Nat} {d : PyData} (h : Sm N D d) (h1 : N ≤ M) (h2 : D ≤ E) : Sm M E d := ⟨h.lay, h.sho, h.vis, Nat.le_trans h.dep h2, Nat.le_trans h.wei h1⟩
theorem SmAll.more {N M D E : Nat} {d : List PyData} (h : SmAll N D d) (h1 : N ≤ M) (h2 : D ≤ E) : SmAll M E d := ⟨h.lay, h.sho, h.vis, Nat.le_trans h.dep h2, Nat.le_trans h.wei h1⟩
theorem Sm.ok {N D : Nat} {d : PyData} (h : Sm N D d) (hN : N ≤ 1000000) (hD : D ≤ 60) : RepOk d := by
  have := h.dep
  have := h.wei
  refine ⟨h.vis, by omega, Nat.le_trans (PyProof.Rows.shown_le13 ?_ h.sho) (by decide)⟩
  unfold PyData.layable0
  rw [h.lay, decide_eq_true (by omega), decide_eq_true (by omega)]
  rfl
theorem small_shown : ∀ n < 102, PyData.intsShort 13 (.int ((n : Nat) - 1 : Int)) = true := by decide +kernel
theorem sm_int {i : Int} (h1 : -1 ≤ i) (h2 : i ≤ 100) : Sm 7 0 (.int i) := by
  have : i.natAbs ≤ 100 := by omega
  have l : i.natAbs.log2 ≤ 6 := by
    have h := Nat.log2_lt (n := i.natAbs) (k := 7)
    by_cases z : i.natAbs = 0
    · rw [z]; decide
    · have := (h z).mpr (by omega)
      omega
  refine ⟨by simp [PyData.canLay0], ?_, ?_, by simp [PyData.depth], ?_⟩
  · have := small_shown (i + 1).toNat (by omega)
    rw [show (((i + 1).toNat : Nat) : Int) - 1 = i by omega] at this
    exact this
  · simp only [PyData.showable]
    exact decide_eq_true (by omega)
  · simp only [PyData.weight]
    split <;> omega
theorem compD_sm {B : Addr → Prop} {H : Hp} {v : V} {L : Int} {rws : List (List Int)} {vds : List Int} (h : CAt B H v L rws vds) : Sm 100000 3 (compD L rws vds) := by
  have w15 : wide L ≤ 15 := by
    rcases L123 h.L1 h.L3 with e | e | e <;> (rw [e]; decide)
  have hL := h.L3
  have hL1 := h.L1
  have r90 := h.r61
  have hv := h.vl
  have rows : SmAll (1000 * rws.length) 1 (rws.map fun r => PyData.tuple (r.map PyData.int)) := by
    have := SmAll.of (N := 999) (D := 1) (ds := rws.map fun r => PyData.tuple (r.map PyData.int)) fun d hd => by
      obtain ⟨r, hr, rfl⟩ := List.mem_map.mp hd
      obtain ⟨e1, e2⟩ := h.rw r hr
      have s := SmAll.of (N := 7) (D := 0) (ds := r.map PyData.int) fun d hd => by
        obtain ⟨x, hx, rfl⟩ := List.mem_map.mp hd
        have := e2 x hx
        exact sm_int (by omega) (by omega)
      rw [List.length_map] at s
      exact (s.tup).more (by omega) (Nat.le_refl _)
    rw [List.length_map] at this
    exact this
  have ver : SmAll (8 * vds.length) 0 (vds.map PyData.int) := by
    have s := SmAll.of (N := 7) (D := 0) (ds := vds.map PyData.int) fun d hd => by
      obtain ⟨x, hx, rfl⟩ := List.mem_map.mp hd
      have := h.vb x hx
      exact sm_int (by omega) (by omega)
    rw [List.length_map] at s
    exact s
  have a := SmAll.cons ((sm_int (i := L) (by omega) (by omega)).more (Nat.le_refl _) (Nat.zero_le 2)) (SmAll.cons (rows.tup) (SmAll.cons (ver.tup.more (Nat.le_refl _) (by decide)) (SmAll.nil 0 2)))
  exact (a.tup).more (by omega) (Nat.le_refl _)
/-! ### specs told of an Int -/
section
variable {P : Program} {w : World} {K : PySem.W.Frag} {mg : Str → Option Value} {base : Heap}
theorem fn_weak {k : Nat} {f : Addr} {fd : FuncData} {ps : List Str} {sp sp' : Sp} (O : FnOk P w K mg base CX0 k f fd ps sp) (i : ∀ vs H Q E, sp' vs H Q E → sp vs H Q E) : FnOk P w K mg base CX0 k f fd ps sp' :=
  ⟨fun _ _ _ _ h => O.1 _ _ _ _ (i _ _ _ _ h), fun a0 a1 a2 a3 a4 a5 a6 a7 a8 a9 a10 a11 a12 h => O.2 a0 a1 a2 a3 a4 a5 a6 a7 a8 a9 a10 a11 a12 (i _ _ _ _ h)⟩
def spByRanksI (K : PySem.W.Frag) : Sp := fun vs H Q _ => ∃ (L : Int) (N : Nat) (l : Addr) (rs : List Int), vs = [.int L, .ref l] ∧ L = (N : Int) ∧ 1 ≤ N ∧ N ≤ 3 ∧ SqT K H l (rs.map V.int) ∧ rs.length = N ∧ ∀ H' v, Same H H' → CAt (Old H) H' v N (rankRws N rs) [0, -1, 1] → Q v H'
def spRankedLI (K : PySem.W.Frag) : Sp := fun vs H Q _ => ∃ (L : Int) (N : Nat) (l : Addr) (rs : List Int), vs = [.int L, .ref l] ∧ L = (N : Int) ∧ 1 ≤ N ∧ N ≤ 3 ∧ SqA K H l (rs.map V.int) ∧ rs.length = N ∧ ∀ H' v, Same H H' → CAt (Old H) H' v N (rankRws N rs) [0, -1, 1] → Q v H'
def spByLenI : Sp := fun vs H Q _ => ∃ (L : Int) (N : Nat), vs = [.int L] ∧ L = (N : Int) ∧ 1 ≤ N ∧ N ≤ 3 ∧ ∀ H' v, Same H H' → CAt (Old H) H' v N (rankRws N (List.replicate N 0)) [0, -1, 1] → Q v H'
def spOrderI : Sp := fun vs H Q _ => ∃ (a c : Addr) (cells : List Int) (n L : Int) (N : Nat), vs = [.ref a, .int L] ∧ L = (N : Int) ∧ DeckAt a c cells n H ∧ 0 ≤ n ∧ n ≤ 900000 ∧ 1 ≤ N ∧ N ≤ 3 ∧
  ∀ (H' : Hp) (cells' : List Int) (n' : Int) (v : V) (rws : List (List Int)) (vds : List Int), DeckAt a c cells' n' H' → n ≤ n' → n' ≤ n + 100 → Keep (Bd a c) H H' → CAt (Bd a c) H' v L rws vds → rws.length ≤ 9 → Q v H'
variable {k : Nat} {f : Addr} {fd : FuncData} {ps : List Str}
theorem byRanksI (O : FnOk P w K mg base CX0 k f fd ps (spByRanks K)) : FnOk P w K mg base CX0 k f fd ps (spByRanksI K) := fn_weak O fun vs H Q E h => by
  obtain ⟨L, N, l, rs, e, hL, r⟩ := h
  subst hL
  exact ⟨N, l, rs, e, r⟩
theorem rankedLI (O : FnOk P w K mg base CX0 k f fd ps (spRankedL K)) : FnOk P w K mg base CX0 k f fd ps (spRankedLI K) := fn_weak O fun vs H Q E h => by
  obtain ⟨L, N, l, rs, e, hL, r⟩ := h
  subst hL
  exact ⟨N, l, rs, e, r⟩
theorem byLenI (O : FnOk P w K mg base CX0 k f fd ps spByLen) : FnOk P w K mg base CX0 k f fd ps spByLenI := fn_weak O fun vs H Q E h => by
  obtain ⟨L, N, e, hL, r⟩ := h
  subst hL
  exact ⟨N, e, r⟩
theorem orderI (O : FnOk P w K mg base CX0 k f fd ps spOrder) : FnOk P w K mg base CX0 k f fd ps spOrderI := fn_weak O fun vs H Q E h => by
  obtain ⟨a, c, cells, n, L, N, e, hL, r⟩ := h
  subst hL
  exact ⟨a, c, cells, n, N, e, r⟩
end
/-! ### what is shown of what is told -/
theorem compD_smP {L : Int} {rws : List (List Int)} {vds : List Int} (hL1 : 1 ≤ L) (hL : L ≤ 3) (r90 : rws.length ≤ 90) (hrw : ∀ r ∈ rws, r.length = wide L ∧ ∀ x ∈ r, 0 ≤ x ∧ x < (rws.length : Int)) (hv : vds.length = rws.length) (vb : ∀ x ∈ vds, -1 ≤ x ∧ x ≤ 1) : Sm 100000 3 (compD L rws vds) := by
  have w15 : wide L ≤ 15 := by
    rcases L123 hL1 hL with e | e | e <;> (rw [e]; decide)
  have rows : SmAll (1000 * rws.length) 1 (rws.map fun r => PyData.tuple (r.map PyData.int)) := by
    have := SmAll.of (N := 999) (D := 1) (ds := rws.map fun r => PyData.tuple (r.map PyData.int)) fun d hd => by
      obtain ⟨r, hr, rfl⟩ := List.mem_map.mp hd
      obtain ⟨e1, e2⟩ := hrw r hr
      have s := SmAll.of (N := 7) (D := 0) (ds := r.map PyData.int) fun d hd => by
        obtain ⟨x, hx, rfl⟩ := List.mem_map.mp hd
        have := e2 x hx
        exact sm_int (by omega) (by omega)
      rw [List.length_map] at s
      exact (s.tup).more (by omega) (Nat.le_refl _)
    rw [List.length_map] at this
    exact this
  have ver : SmAll (8 * vds.length) 0 (vds.map PyData.int) := by
    have s := SmAll.of (N := 7) (D := 0) (ds := vds.map PyData.int) fun d hd => by
      obtain ⟨x, hx, rfl⟩ := List.mem_map.mp hd
      have := vb x hx
      exact sm_int (by omega) (by omega)
    rw [List.length_map] at s
    exact s
  have a := SmAll.cons ((sm_int (i := L) (by omega) (by omega)).more (Nat.le_refl _) (Nat.zero_le 2)) (SmAll.cons (rows.tup) (SmAll.cons (ver.tup.more (Nat.le_refl _) (by decide)) (SmAll.nil 0 2)))
  exact (a.tup).more (by omega) (Nat.le_refl _)
theorem told_ok {B1 B2 : Addr → Prop} {H1 H2 : Hp} {v1 v2 : V} {L1 L2 : Int} {r1 r2 : List (List Int)} {d1 d2 : List Int} (c1 : CAt B1 H1 v1 L1 r1 d1) (c2 : CAt B2 H2 v2 L2 r2 d2) : RepOk (toldD L1 L2 r1 r2 d1 d2) := by
  unfold toldD
  by_cases e : L1 ≠ L2
  · rw [if_pos e]
    exact ⟨by decide +kernel, by decide +kernel, by decide +kernel⟩
  · rw [if_neg e]
    have e := Decidable.of_not_not e
    subst e
    by_cases z : (thenR r1 r2).length ≤ 60
    · rw [if_pos z]
      have TI := iter_inv c1.rw c2.rw c1.r1 c2.r1 (r1.length * r2.length)
      have tl := then_len TI
      have l1 := c1.vl
      have l2 := c2.vl
      refine (compD_smP c1.L1 c1.L3 (by omega) (fun r hr => by rw [tl]; exact TI.rw r hr) (by rw [thenD, List.length_map]; exact tl.symm) fun x hx => ?_).ok (by decide) (by decide)
      obtain ⟨c, hc, rfl⟩ := List.mem_map.mp hx
      have hcb := TI.bd c hc
      have v1 : d1.getD c.1.toNat 0 ∈ d1 := by
        rw [List.getD_eq_getElem?_getD, List.getElem?_eq_getElem (by omega)]
        exact List.getElem_mem _
      have v2 : d2.getD c.2.toNat 0 ∈ d2 := by
        rw [List.getD_eq_getElem?_getD, List.getElem?_eq_getElem (by omega)]
        exact List.getElem_mem _
      unfold verd
      split
      · exact c1.vb _ v1
      · exact c2.vb _ v2
    · rw [if_neg z]
      exact ⟨by decide +kernel, by decide +kernel, by decide +kernel⟩
/-! ### rows made by hand, and pairs of comparisons -/
theorem deck_notup {a c q : Addr} {cells : List Int} {n : Int} {H : Hp} {xs : List V} (dk : DeckAt a c cells n H) (h : Rd H q (.tup xs)) : ¬ Bd a c q := fun z => by
  rcases z with z | z
  · exact not_tup dk.2.1 _ (z ▸ h)
  · exact not_tup dk.2.2.1 _ (z ▸ h)
theorem rturnO {a c D q : Addr} {H H1 H3 : Hp} {L m n0 n1 : Int} {i : Nat} {rvs : List V} {r : List Int} {rws : List (List Int)} {cells2 : List Int} (hD0 : H D = none) (nD : ¬ Bd a c D) (hi : i ≤ 100) (kp : Keep (Bd a c) H H1) (hD : H1 D = some (.lst rvs))
    (hp : Paired (RowAt (B3 a c D) H1) rvs rws) (hl : rws.length = i) (hr : ∀ r ∈ rws, r.length = wide L ∧ ∀ x ∈ r, 0 ≤ x ∧ x < m) (s : Same H1 H3) (dk : DeckAt a c cells2 n1 H3) (hw : r.length = wide L) (hx : ∀ x ∈ r, 0 ≤ x ∧ x < m) (hq : Rd H3 q (.tup (r.map V.int))) (h0 : n0 ≤ n1) (h1 : n1 ≤ n0 + 20 * i) :
    ∃ rvs', H3 D = some (.lst rvs') ∧ rvs'.length < sizeLine ∧ RInv a c D H L m n0 (i + 1) (upd H3 D (.lst (rvs' ++ [.ref q]))) := by
  have hD2 := s _ _ hD
  have nq : q ≠ D := fun e => not_tup hD2 _ (e ▸ hq)
  have k3 : Keep (B3 a c D) H1 (upd H3 D (.lst (rvs ++ [.ref q]))) := fun b o nb z => by
    rw [upd_ne (fun z : b = D => nb (.inr z))]
    exact s _ _ z
  have hlv := hp.length
  refine ⟨rvs, hD2, small1000 (by omega), cells2, n1, rvs ++ [.ref q], rws ++ [r], deck_upd dk nD, h0, by omega, fun b o nb z => ?_, upd_same, (paired_imp (fun _ _ => RowAt.keep k3) hp).snoc ⟨q, rfl, ?_, rd_upd (not_tup hD2) hq⟩, ?_, fun r2 hr2 => ?_⟩
  · rw [upd_ne (ne_of_none z hD0)]
    exact s _ _ (kp _ _ nb z)
  · rintro (z | z)
    · exact deck_notup dk hq z
    · exact nq z
  · rw [List.length_append, hl]
    rfl
  · rcases List.mem_append.mp hr2 with hr2 | hr2
    · exact hr r2 hr2
    · rw [List.mem_singleton.mp hr2]
      exact ⟨hw, hx⟩
def PairOk (a c : Addr) (H : Hp) (x : V) : Prop := ∃ q u1 u2 L1 L2 r1 r2 d1 d2, x = .ref q ∧ Rd H q (.tup [u1, u2]) ∧ CAt (Bd a c) H u1 L1 r1 d1 ∧ CAt (Bd a c) H u2 L2 r2 d2 ∧ r1.length * r2.length ≤ 90
theorem PairOk.same {a c : Addr} {H H' : Hp} {x : V} (h : PairOk a c H x) (s : Same H H') : PairOk a c H' x := by
  obtain ⟨q, u1, u2, L1, L2, r1, r2, d1, d2, e, h1, h2, h3, h4⟩ := h
  exact ⟨q, u1, u2, L1, L2, r1, r2, d1, d2, e, same_rd s h1, h2.keep (Keep.same s), h3.keep (Keep.same s), h4⟩
theorem str_no (x : Str) : ¬ (!decide (V.str x = V.str x)) = true := by
  rw [decide_eq_true rfl]
  exact Bool.false_ne_true
theorem any_ints {acc : List V} (h : ∀ v ∈ acc, ∃ k : Int, v = V.int k) : ∃ rs : List Int, acc = rs.map V.int := by
  induction acc with
  | nil => exact ⟨[], rfl⟩
  | cons v acc ih =>
    obtain ⟨k, rfl⟩ := h v List.mem_cons_self
    obtain ⟨rs, e⟩ := ih fun u hu => h u (List.mem_cons_of_mem _ hu)
    exact ⟨k :: rs, by rw [e]; rfl⟩
theorem two_sm {B B' : Addr → Prop} {H H' : Hp} {v v' : V} {L L' : Int} {rws rws' : List (List Int)} {vds vds' : List Int} (h : CAt B H v L rws vds) (h' : CAt B' H' v' L' rws' vds') : RepOk (.list [compD L rws vds, compD L' rws' vds']) :=
  ((SmAll.cons (compD_sm h) (SmAll.cons (compD_sm h') (SmAll.nil 0 3))).lst).ok (by decide) (by decide)
theorem two_dt {K : PySem.W.Frag} {H H' : Hp} {B B' : Addr → Prop} {p : Addr} {v v' : V} {L L' : Int} {rws rws' : List (List Int)} {vds vds' : List Int} (h : CAt B H v L rws vds) (h' : CAt B' H v' L' rws' vds') (s : Same H H') (np : p ≠ sysModules) (lp : H' p = some (.lst [v, v'])) :
    Dt (fun _ => False) K H' (.ref p) (.list [compD L rws vds, compD L' rws' vds']) :=
  .lst (fun z => z) np (.inl lp) (.cons (same_dt s ((h.weak fun _ z => z.elim).dt)) (.cons (same_dt s ((h'.weak fun _ z => z.elim).dt)) .nil))
section
variable {P : Program} {w : World} {K : PySem.W.Frag} {mg : Str → Option Value} {base : Heap}
theorem scLaw : FnScope ["_law_script", "_law_deck_here", "_law_turn", "_law_letters", "_law_ranks", "_law_one_here", "_law_other", "_law_alien", "_law_first", "_law_second", "_law_size", "_law_wide", "_law_letter", "_law_row"] ["_law_script"] (defScope sLaw) := ⟨rfl, rfl, rfl, by decide +kernel, rfl, by decide +kernel, by decide +kernel⟩
def spLaw (K : PySem.W.Frag) : Sp := fun vs H Q _ => ∃ (l : Addr) (ns : List Int), vs = [.ref l] ∧ SqL K H l (ns.map V.int) ∧ ns.length ≤ 63 ∧ ∀ H', Q (.bl true) H'
theorem ok_law {f fDK fD fO fC fOR fBR fBL fRL fTU fTL fTD fDU fCL : Addr} {fd fdDK fdD fdO fdC fdOR fdBR fdBL fdRL fdTU fdTL fdTD fdDU fdCL : FuncData} (F : Fun K "law" "law" sLaw f fd)
    (DK : FnOk P w K mg base CX0 1 fDK fdDK ["_law_script"] (spDeck K)) (FDK : Fun K "_law_deck" "_law_deck" sDeck fDK fdDK) (bDK : Binds K fdDK ["_law_script"] []) (gDK : mg "_law_deck" = some (.ref fDK))
    (D : FnOk P w K mg base CX0 1 fD fdD ["_law_deck_here", "_law_most"] spDraw) (FD : Fun K "_law_draw" "_law_draw" sDraw fD fdD) (bD : Binds K fdD ["_law_deck_here", "_law_most"] []) (gD : mg "_law_draw" = some (.ref fD))
    (O : FnOk P w K mg base CX0 2 fO fdO ["_law_deck_here", "_law_items"] (spOne K)) (FO : Fun K "_law_one" "_law_one" sOne fO fdO) (bO : Binds K fdO ["_law_deck_here", "_law_items"] []) (gO : mg "_law_one" = some (.ref fO))
    (C : FnOk P w K mg base CX0 3 fC fdC ["_law_deck_here", "_law_letters", "_law_many"] spComp) (FC : Fun K "_law_comp" "_law_comp" sComp fC fdC) (bC : Binds K fdC ["_law_deck_here", "_law_letters", "_law_many"] []) (gC : mg "_law_comp" = some (.ref fC))
    (OR : FnOk P w K mg base CX0 3 fOR fdOR ["_law_deck_here", "_law_letters"] spOrder) (FOR : Fun K "_law_order" "_law_order" sOrder fOR fdOR) (bOR : Binds K fdOR ["_law_deck_here", "_law_letters"] []) (gOR : mg "_law_order" = some (.ref fOR))
    (BR : FnOk P w K mg base CX0 2 fBR fdBR ["letters", "ranks"] (spByRanks K)) (FBR : Fun K "by_ranks" "by_ranks" sByRanks fBR fdBR) (bBR : Binds K fdBR ["letters", "ranks"] []) (gBR : mg "by_ranks" = some (.ref fBR))
    (BL : FnOk P w K mg base CX0 3 fBL fdBL ["letters"] spByLen) (FBL : Fun K "by_length" "by_length" sByLen fBL fdBL) (bBL : Binds K fdBL ["letters"] []) (gBL : mg "by_length" = some (.ref fBL))
    (RL : FnOk P w K mg base CX0 2 fRL fdRL ["_law_letters", "_law_ranks"] (spRankedL K)) (FRL : Fun K "_law_ranked" "_law_ranked" sRankedL fRL fdRL) (bRL : Binds K fdRL ["_law_letters", "_law_ranks"] []) (gRL : mg "_law_ranked" = some (.ref fRL))
    (TU : FnOk P w K mg base CX0 1 fTU fdTU ["comp"] (spTurned K)) (FTU : Fun K "turned" "turned" sTurned fTU fdTU) (bTU : Binds K fdTU ["comp"] []) (gTU : mg "turned" = some (.ref fTU))
    (TL : FnOk P w K mg base CX0 1 fTL fdTL ["_law_comp_here"] (spTurned K)) (FTL : Fun K "_law_turned" "_law_turned" sTurnedL fTL fdTL) (bTL : Binds K fdTL ["_law_comp_here"] []) (gTL : mg "_law_turned" = some (.ref fTL))
    (TD : FnOk P w K mg base CX0 2 fTD fdTD ["_law_one_here", "_law_other"] (spTold K)) (FTD : Fun K "_law_told" "_law_told" sTold fTD fdTD) (bTD : Binds K fdTD ["_law_one_here", "_law_other"] []) (gTD : mg "_law_told" = some (.ref fTD))
    (DU : FnOk P w K mg base CX0 2 fDU fdDU ["_law_one_here", "_law_other"] (spTold K)) (FDU : Fun K "_law_due" "_law_due" sDue fDU fdDU) (bDU : Binds K fdDU ["_law_one_here", "_law_other"] []) (gDU : mg "_law_due" = some (.ref fDU))
    (CL : FnOk P w K mg base CX0 1 fCL fdCL ["_law_letters"] spColsL) (FCL : Fun K "_law_columns" "_law_columns" sColsL fCL fdCL) (bCL : Binds K fdCL ["_law_letters"] []) (gCL : mg "_law_columns" = some (.ref fCL))
    (T : Mg mg) : GRun P w K mg base 4 f fd ["_law_script"] (spLaw K) := by
  replace BR := byRanksI BR
  replace RL := rankedLI RL
  replace BL := byLenI BL
  replace OR := orderI OR
  refine grun F scLaw (fun cdv A outer s H vs Q hG0 hr h => ?_)
  obtain ⟨l, ns, rfl, hS, hlen, k⟩ := h
  have hG : (A.deeper (envOfC "law" (defScope sLaw) s.heap.objs.size f cdv)).guards = some [] := hG0
  have hu := hr.units
  refine ⟨_, (pss_cons (ps_set (i := 1) scLaw.nd rfl (.inr rfl) (pe_call DK (hr.mono (by decide)) (by rfl) gDK FDK.kp bDK .nil pass0 (pa_cons (pv 0) pa_nil)))
        (pss_cons (ps_for PassesOwn.never rfl (pi_range1 (by rfl) T.range (pa_cons pe_int pa_nil)) (pg_name (i := 2) scLaw.nd rfl (.inl rfl)) (pss_cons (ps_set (i := 3) scLaw.nd rfl (.inl rfl) (pe_op op_add pe_int (pe_call D (hr.mono (by decide)) (by rfl) gD FD.kp bD .nil pass0 (pa_cons (pv 1) (pa_cons pe_int pa_nil)))))
        (pss_cons (ps_set (i := 4) scLaw.nd rfl (.inl rfl) (pe_callTy (r := rTup K) call_tuple_of (by rfl) T.tuple PyProof.Rows.boot_tuple (pa_cons (pe_lc (own := [("_law_letter", 12)]) (g := gName 12) (tt := tYes) rfl scLaw.nd (pi_range1 (by rfl) T.range (pa_cons (pv 3) pa_nil)) (blkOk_by (N := ["_law_script", "_law_deck_here", "_law_turn", "_law_letters", "_law_ranks", "_law_one_here", "_law_other", "_law_alien", "_law_first", "_law_second", "_law_size", "_law_wide", "_law_letter", "_law_row"]) (sc := defScope sLaw) (by decide +kernel)) (fun _ _ _ _ _ => pg_name (i := 12) scLaw.nd rfl (Or.inl rfl)) (fun _ _ _ _ _ => pts_nil) (fun _ _ _ _ _ => (pe_call O (hr.mono (by decide)) (by rfl) gO FO.kp bO .nil pass0 (pa_cons (pv 1) (pa_cons (pe_lstA (pa_cons pe_int (pa_cons pe_int (pa_cons pe_int (pa_cons (pe_un un_neg pe_int) (pa_cons (pe_op op_pow pe_int pe_int) pa_nil)))))) pa_nil))))) pa_nil)))
        (pss_cons (ps_if (pt_cmpR op_ne (pe_callB (call_reprD hG hu) (by rfl) T.repr (by decide +kernel) (pa_cons (pe_lstA (pa_cons (pe_call BR (hr.mono (by decide)) (by rfl) gBR FBR.kp bBR .nil pass0 (pa_cons (pv 3) (pa_cons (pv 4) pa_nil))) (pa_cons (pe_call BL (hr.mono (by decide)) (by rfl) gBL FBL.kp bBL .nil pass0 (pa_cons (pv 3) pa_nil)) pa_nil))) pa_nil)) (pe_callB (call_reprD hG hu) (by rfl) T.repr (by decide +kernel) (pa_cons (pe_lstA (pa_cons (pe_call RL (hr.mono (by decide)) (by rfl) gRL FRL.kp bRL .nil pass0 (pa_cons (pv 3) (pa_cons (pv 4) pa_nil))) (pa_cons (pe_call RL (hr.mono (by decide)) (by rfl) gRL FRL.kp bRL .nil pass0 (pa_cons (pv 3) (pa_cons (pe_op op_repS (pe_tup (pa_cons pe_int pa_nil)) (pv 3)) pa_nil))) pa_nil))) pa_nil)) (nomark _)) (pss_one (ps_ret pe_bl)) pss_nil)
        (pss_cons (ps_set (i := 5) scLaw.nd rfl (.inl rfl) (pe_call O (hr.mono (by decide)) (by rfl) gO FO.kp bO .nil pass0 (pa_cons (pv 1) (pa_cons (pe_lstA (pa_cons (pe_call C (hr.mono (by decide)) (by rfl) gC FC.kp bC .nil pass0 (pa_cons (pv 1) (pa_cons (pv 3) (pa_cons (pe_op op_add pe_int (pe_call D (hr.mono (by decide)) (by rfl) gD FD.kp bD .nil pass0 (pa_cons (pv 1) (pa_cons pe_int pa_nil)))) pa_nil)))) (pa_cons (pe_call OR (hr.mono (by decide)) (by rfl) gOR FOR.kp bOR .nil pass0 (pa_cons (pv 1) (pa_cons (pv 3) pa_nil))) pa_nil))) pa_nil))))
        (pss_cons (ps_set (i := 6) scLaw.nd rfl (.inl rfl) (pe_call O (hr.mono (by decide)) (by rfl) gO FO.kp bO .nil pass0 (pa_cons (pv 1) (pa_cons (pe_lstA (pa_cons (pe_call C (hr.mono (by decide)) (by rfl) gC FC.kp bC .nil pass0 (pa_cons (pv 1) (pa_cons (pv 3) (pa_cons (pe_op op_add pe_int (pe_call D (hr.mono (by decide)) (by rfl) gD FD.kp bD .nil pass0 (pa_cons (pv 1) (pa_cons pe_int pa_nil)))) pa_nil)))) (pa_cons (pe_call OR (hr.mono (by decide)) (by rfl) gOR FOR.kp bOR .nil pass0 (pa_cons (pv 1) (pa_cons (pv 3) pa_nil))) (pa_cons (pv 5) pa_nil)))) pa_nil))))
        (pss_cons (ps_set (i := 7) scLaw.nd rfl (.inl rfl) (pe_call C (hr.mono (by decide)) (by rfl) gC FC.kp bC .nil pass0 (pa_cons (pv 1) (pa_cons (pe_op op_add (pe_op op_mod (pe_callTy call_int1 (by rfl) T.int (by decide +kernel) (pa_cons (pv 3) pa_nil)) pe_int) pe_int) (pa_cons pe_int pa_nil)))))
        (pss_cons (ps_if (pt_cmpR op_ne (pe_callB (call_reprD hG hu) (by rfl) T.repr (by decide +kernel) (pa_cons (pe_call TU (hr.mono (by decide)) (by rfl) gTU FTU.kp bTU .nil pass0 (pa_cons (pv 5) pa_nil)) pa_nil)) (pe_callB (call_reprD hG hu) (by rfl) T.repr (by decide +kernel) (pa_cons (pe_call TL (hr.mono (by decide)) (by rfl) gTL FTL.kp bTL .nil pass0 (pa_cons (pv 5) pa_nil)) pa_nil)) (nomark _)) (pss_one (ps_ret pe_bl)) pss_nil)
        (pss_one (ps_for PassesOwn.never rfl (pi_list (pe_lstA (pa_cons (pe_tup (pa_cons (pv 5) (pa_cons (pv 6) pa_nil))) (pa_cons (pe_tup (pa_cons (pv 6) (pa_cons (pv 5) pa_nil))) (pa_cons (pe_tup (pa_cons (pv 5) (pa_cons (pv 7) pa_nil))) (pa_cons (pe_tup (pa_cons (pv 7) (pa_cons (pv 6) pa_nil))) pa_nil)))))) (pg_tup rfl (pgs_cons (pg_name (i := 8) scLaw.nd rfl (.inl rfl)) (pgs_cons (pg_name (i := 9) scLaw.nd rfl (.inl rfl)) pgs_nil))) (pss_one (ps_if (pt_cmpR op_ne (pe_callB (call_reprD hG hu) (by rfl) T.repr (by decide +kernel) (pa_cons (pe_call TD (hr.mono (by decide)) (by rfl) gTD FTD.kp bTD .nil pass0 (pa_cons (pv 8) (pa_cons (pv 9) pa_nil))) pa_nil)) (pe_callB (call_reprD hG hu) (by rfl) T.repr (by decide +kernel) (pa_cons (pe_call DU (hr.mono (by decide)) (by rfl) gDU FDU.kp bDU .nil pass0 (pa_cons (pv 8) (pa_cons (pv 9) pa_nil))) pa_nil)) (nomark _)) (pss_one (ps_ret pe_bl)) pss_nil))))))))))))
        (pss_cons (ps_set (i := 3) scLaw.nd rfl (.inl rfl) (pe_op op_add pe_int (pe_call D (hr.mono (by decide)) (by rfl) gD FD.kp bD .nil pass0 (pa_cons (pv 1) (pa_cons pe_int pa_nil)))))
        (pss_cons (ps_set (i := 10) scLaw.nd rfl (.inr rfl) (pe_op op_add pe_int (pe_call D (hr.mono (by decide)) (by rfl) gD FD.kp bD .nil pass0 (pa_cons (pv 1) (pa_cons pe_int pa_nil)))))
        (pss_cons (ps_set (i := 11) scLaw.nd rfl (.inr rfl) (pe_callB (r := rLen K) call_len_seq (by rfl) T.len PySem.boot_len (pa_cons (pe_call CL (hr.mono (by decide)) (by rfl) gCL FCL.kp bCL .nil pass0 (pa_cons (pv 3) pa_nil)) pa_nil)))
        (pss_cons (ps_set (i := 5) scLaw.nd rfl (.inl rfl) (pe_tup (pa_cons (pv 3) (pa_cons (pe_callTy (r := rTup K) call_tuple_of (by rfl) T.tuple PyProof.Rows.boot_tuple (pa_cons (pe_lc (own := [("_law_row", 13)]) (g := gName 13) (tt := tYes) rfl scLaw.nd (pi_range1 (by rfl) T.range (pa_cons (pv 10) pa_nil)) (blkOk_by (N := ["_law_script", "_law_deck_here", "_law_turn", "_law_letters", "_law_ranks", "_law_one_here", "_law_other", "_law_alien", "_law_first", "_law_second", "_law_size", "_law_wide", "_law_letter", "_law_row"]) (sc := defScope sLaw) (by decide +kernel)) (fun _ _ _ _ _ => pg_name (i := 13) scLaw.nd rfl (Or.inl rfl)) (fun _ _ _ _ _ => pts_nil) (fun _ _ _ _ _ => (pe_op op_repS (pe_tup (pa_cons (pe_op op_mod (pe_callTy call_int1 (by rfl) T.int (by decide +kernel) (pa_cons (pe_op op_add (pv 13) pe_int) pa_nil)) (pv 10)) pa_nil)) (pv 11)))) pa_nil)) (pa_cons (pe_op op_repS (pe_tup (pa_cons pe_int pa_nil)) (pv 10)) pa_nil)))))
        (pss_cons (ps_set (i := 6) scLaw.nd rfl (.inl rfl) (pe_tup (pa_cons (pv 3) (pa_cons (pe_callTy (r := rTup K) call_tuple_of (by rfl) T.tuple PyProof.Rows.boot_tuple (pa_cons (pe_lc (own := [("_law_row", 13)]) (g := gName 13) (tt := tYes) rfl scLaw.nd (pi_range1 (by rfl) T.range (pa_cons (pe_op op_add (pv 10) pe_int) pa_nil)) (blkOk_by (N := ["_law_script", "_law_deck_here", "_law_turn", "_law_letters", "_law_ranks", "_law_one_here", "_law_other", "_law_alien", "_law_first", "_law_second", "_law_size", "_law_wide", "_law_letter", "_law_row"]) (sc := defScope sLaw) (by decide +kernel)) (fun _ _ _ _ _ => pg_name (i := 13) scLaw.nd rfl (Or.inl rfl)) (fun _ _ _ _ _ => pts_nil) (fun _ _ _ _ _ => (pe_op op_repS (pe_tup (pa_cons (pe_op op_mod (pe_callTy call_int1 (by rfl) T.int (by decide +kernel) (pa_cons (pe_op op_add (pv 13) pe_int) pa_nil)) (pe_op op_add (pv 10) pe_int)) pa_nil)) (pv 11)))) pa_nil)) (pa_cons (pe_op op_repS (pe_tup (pa_cons pe_int pa_nil)) (pe_op op_add (pv 10) pe_int)) pa_nil)))))
        (pss_one (ps_ret (pe_cmpR op_eq (pe_callB (call_reprD hG hu) (by rfl) T.repr (by decide +kernel) (pa_cons (pe_call TD (hr.mono (by decide)) (by rfl) gTD FTD.kp bTD .nil pass0 (pa_cons (pv 5) (pa_cons (pv 6) pa_nil))) pa_nil)) (pe_callB (call_reprD hG hu) (by rfl) T.repr (by decide +kernel) (pa_cons (pe_call DU (hr.mono (by decide)) (by rfl) gDU FDU.kp bDU .nil pass0 (pa_cons (pv 5) (pa_cons (pv 6) pa_nil))) pa_nil)) (nomark _))))))))))), ?_⟩
  refine ⟨_, rfl, l, ns, rfl, hS, hlen, fun H1 a c cells0 s1 na nc dk0 => ?_⟩
  refine ⟨7, rfl, by decide, by decide, for_range (lo := 0) (n := 7) (fun i σ H' => (∃ y2 y3 y4 y5 y6 y7 y8 y9, σ = [some (V.ref l), some (V.ref a), y2, y3, y4, y5, y6, y7, y8, y9, none, none, none, none]) ∧ ∃ cells n, DeckAt a c cells n H' ∧ 0 ≤ n ∧ n ≤ 10000 * (i : Int)) ⟨⟨none, none, none, none, none, none, none, none, rfl⟩, cells0, 0, dk0, Int.le_refl _, by omega⟩ ?_ ?_⟩
  · rintro i σ H2 hi ⟨⟨y2, y3, y4, y5, y6, y7, y8, y9, rfl⟩, cells, n, dk, n0, n1⟩
    refine ⟨_, rfl, a, c, cells, n, 3, rfl, dk, by decide, by decide, n0, by omega, fun H3 cells3 r r0 r3 dk3 k3 => ⟨1, r, rfl, rfl, ?_⟩⟩
    obtain ⟨N, hN⟩ : ∃ N : Nat, (1 + r : Int) = (N : Int) := ⟨(1 + r).toNat, by omega⟩
    have N1 : 1 ≤ N := by omega
    have N3 : N ≤ 3 := by omega
    refine ⟨_, rfl, 1 + r, rfl, by omega, by omega, fun D hD => ?_⟩
    refine lc_range (lo := 0) (n := (1 + r).toNat) (CInv a c D H3 (fun v => ∃ k : Int, v = .int k) (n + 1) 1) (cstart dk3 hD) ?_ ?_
    · rintro j H4 hj ⟨cells4, n4, acc, dk4, g0, g1, k4, hD4, hl4, hG4⟩
      refine ⟨rfl, _, rfl, 5, rfl, 10, 30, rfl, rfl, ⟨by decide, by decide, by decide⟩, by show 5 ≤ sizeLine; decide, fun pl G s2 npl _ lpl => ⟨a, c, pl, cells4, n4, _, rfl, deck_same s2 dk4, by omega, by omega, SqL.of lpl, deck_off dk4 npl, List.cons_ne_nil _ _, by decide, fun H5 cells5 x hx dk5 k5 => ?_⟩⟩
      obtain ⟨x0, rfl⟩ : ∃ x0 : Int, x = .int x0 := by
        simp only [List.mem_cons, List.not_mem_nil, or_false] at hx
        rcases hx with hx | hx | hx | hx | hx <;> exact ⟨_, hx⟩
      exact cstep hD (deck_off dk3 hD) (by omega) g0 g1 k4 hD4 hl4 hG4 dk5 (by omega) (by omega) ((Keep.same s2).trans k5) ⟨x0, rfl⟩
    · rintro H4 ⟨cells4, n4, acc, dk4, g0, g1, k4, hD4, hl4, hG4⟩
      obtain ⟨rs, rfl⟩ := any_ints hG4
      rw [List.length_map] at hl4
      have lrs : rs.length = N := by omega
      refine ⟨D, _, rfl, .inl ⟨SqL.of hD4, fun q hq => ?_⟩⟩
      have sq := same_new (o := .tup (rs.map V.int)) hq
      have rq : SqT K (upd H4 q (.tup (rs.map V.int))) q (rs.map V.int) := .inl (.inl upd_same)
      have dkq := deck_same sq dk4
      generalize upd H4 q (.tup (rs.map V.int)) = G0 at *
      refine ⟨_, rfl, _, rfl, 1 + r, N, q, rs, rfl, hN, N1, N3, rq, lrs, fun G1 v1 s1 m1 => ⟨_, rfl, 1 + r, N, rfl, hN, N1, N3, fun G2 v2 s2 m2 => ⟨by show 2 ≤ sizeLine; decide, fun p3 G3 s3 _ np3 lp3 => ?_⟩⟩⟩
      have m1' := m1.keep (Keep.same s2)
      obtain ⟨w1, w2, w3⟩ := two_sm m1' m2
      refine ⟨_, _, _, rfl, two_dt m1' m2 s3 np3 lp3, w1, w2, w3, ?_⟩
      have sA := (s1.trans s2).trans s3
      have rq3 := same_seqT sA rq
      refine ⟨_, rfl, _, rfl, 1 + r, N, q, rs, rfl, hN, N1, N3, .inr rq3, lrs, fun G4 u1 t1 e1 => ?_⟩
      refine ⟨_, rfl, by show 1 ≤ sizeLine; decide, fun z hz => ?_⟩
      have tz := same_new (o := .tup [V.int 0]) hz
      have rz : Rd (upd G4 z (.tup [V.int 0])) z (.tup [V.int 0]) := .inl upd_same
      generalize upd G4 z (.tup [V.int 0]) = G5 at *
      refine ⟨_, rfl, z, 1 + r, _, rfl, rfl, rz, List.cons_ne_nil _ _, by omega, by omega, by show 1 ≤ 1000; decide, fun zq G6 t2 rzq _ => ?_⟩
      rw [flat_one, show (1 + r).toNat = N by omega] at rzq
      refine ⟨1 + r, N, zq, List.replicate N 0, rfl, hN, N1, N3, .inr (.inl (by rw [List.map_replicate]; exact rzq)), List.length_replicate, fun G7 u2 t3 e2 => ⟨by show 2 ≤ sizeLine; decide, fun p4 G8 t4 _ np4 lp4 => ?_⟩⟩
      have e1' := e1.keep (Keep.same ((tz.trans t2).trans t3))
      obtain ⟨x1, x2, x3⟩ := two_sm e1' e2
      refine ⟨_, _, _, rfl, two_dt e1' e2 t4 np4 lp4, x1, x2, x3, ?_⟩
      generalize PyData.shown _ = X
      refine ⟨rfl, _, rfl, ite2 (fun h => absurd h (str_no _)) fun hX => ?_⟩
      clear hX X
      have sB : Same G0 G8 := (((sA.trans t1).trans tz).trans t2).trans (t3.trans t4)
      have dkB := deck_same sB dkq
      clear e1' e2 x1 x2 x3 w1 w2 w3 m1' m2 m1 e1 rz rzq rq3 lp4 lp3 rq sq sB sA s1 s2 s3 t1 tz t2 t3 t4 hq np3 np4 hz hD4 hG4 dk4 k4 hD lrs dk3 k3 dk dk0
      -- one
      refine ⟨_, rfl, _, rfl, _, rfl, _, rfl, a, c, cells4, n4, 9, rfl, dkB, by decide, by decide, by omega, by omega, fun J1 c1 r1 r10 r19 dk1 k1 => ⟨1, r1, rfl, rfl, ?_⟩⟩
      refine ⟨a, c, c1, n4 + 1, 1 + r, 1 + r1, rfl, dk1, by omega, by omega, by omega, by omega, by omega, by omega, fun J2 c2 n2 v1 rw1 vd1 dk2 e1 e2 k2 cm1 lr1 => ⟨_, rfl, _, rfl, a, c, c2, n2, 1 + r, N, rfl, hN, dk2, by omega, by omega, N1, N3, fun J3 c3 n3 v2 rw2 vd2 dk3 e3 e4 k3 cm2 lr2 => ⟨by show 2 ≤ sizeLine; decide, fun p G s np _ lp => ?_⟩⟩⟩
      refine ⟨a, c, p, c3, n3, _, rfl, deck_same s dk3, by omega, by omega, SqL.of lp, deck_off dk3 np, List.cons_ne_nil _ _, by show 2 ≤ 1000; decide, fun J4 c4 x hx dk4 k4 => ?_⟩
      obtain ⟨rwx, vdx, cmx, lx⟩ : ∃ rws vds, CAt (Bd a c) J4 x (1 + r) rws vds ∧ rws.length ≤ 9 := by
        simp only [List.mem_cons, List.not_mem_nil, or_false] at hx
        rcases hx with hx | hx
        · exact ⟨rw1, vd1, hx ▸ cm1.keep (k3.trans ((Keep.same s).trans k4)), by omega⟩
        · exact ⟨rw2, vd2, hx ▸ cm2.keep ((Keep.same s).trans k4), lr2⟩
      clear cm1 cm2 hx k1 k2 k3 k4 dk1 dk2 dk3 s np lp dkB dkq
      -- other
      refine ⟨_, rfl, _, rfl, _, rfl, _, rfl, a, c, c4, n3 + 1, 9, rfl, dk4, by decide, by decide, by omega, by omega, fun J5 c5 r5 r50 r59 dk5 k5 => ⟨1, r5, rfl, rfl, ?_⟩⟩
      refine ⟨a, c, c5, n3 + 1 + 1, 1 + r, 1 + r5, rfl, dk5, by omega, by omega, by omega, by omega, by omega, by omega, fun J6 c6 n6 v3 rw3 vd3 dk6 e5 e6 k6 cm3 lr3 => ⟨_, rfl, _, rfl, a, c, c6, n6, 1 + r, N, rfl, hN, dk6, by omega, by omega, N1, N3, fun J7 c7 n7 v4 rw4 vd4 dk7 e7 e8 k7 cm4 lr4 => ⟨_, rfl, by show 3 ≤ sizeLine; decide, fun p2 G2 s2 np2 _ lp2 => ?_⟩⟩⟩
      refine ⟨a, c, p2, c7, n7, _, rfl, deck_same s2 dk7, by omega, by omega, SqL.of lp2, deck_off dk7 np2, List.cons_ne_nil _ _, by show 3 ≤ 1000; decide, fun J8 c8 z hz dk8 k8 => ?_⟩
      have kx : Keep (Bd a c) J4 J8 := (((k5.trans k6).trans k7).trans (Keep.same s2)).trans k8
      have cmx8 := cmx.keep kx
      obtain ⟨rwz, vdz, cmz, lz⟩ : ∃ rws vds, CAt (Bd a c) J8 z (1 + r) rws vds ∧ rws.length ≤ 9 := by
        simp only [List.mem_cons, List.not_mem_nil, or_false] at hz
        rcases hz with hz | hz | hz
        · exact ⟨rw3, vd3, hz ▸ cm3.keep (k7.trans ((Keep.same s2).trans k8)), by omega⟩
        · exact ⟨rw4, vd4, hz ▸ cm4.keep ((Keep.same s2).trans k8), lr4⟩
        · exact ⟨rwx, vdx, hz ▸ cmx8, lx⟩
      clear cm3 cm4 hz cmx k5 k6 k7 k8 kx dk5 dk6 dk7 s2 np2 lp2 dk4
      -- alien
      refine ⟨_, rfl, _, rfl, .inl ⟨1 + r, rfl, _, _, rfl, rfl, (by show (0 : Int) < 3; decide), _, _, rfl, rfl, ?_⟩⟩
      refine ⟨a, c, c8, n7 + 1, (1 + r) % 3 + 1, 3, rfl, dk8, by omega, by omega, by omega, by omega, by decide, by decide, fun J9 c9 n9 v5 rw5 vd5 dk9 e9 e10 k9 cm5 lr5 => ?_⟩
      have cx := cmx8.keep k9
      have cz := cmz.keep k9
      clear cmx8 cmz k9 dk8
      have tb9 : TB (Bd a c) J9 := fun b z e => deck_off dk9 e z
      -- turned
      refine ⟨_, rfl, Bd a c, x, 1 + r, rwx, vdx, rfl, cx, tb9, fun K1 f1 t1 g1 => ?_⟩
      obtain ⟨w1, w2, w3⟩ := (compD_sm g1).ok (by decide) (by decide)
      refine ⟨_, _, Bd a c, rfl, g1.dt, w1, w2, w3, ?_⟩
      refine ⟨_, rfl, Bd a c, x, 1 + r, rwx, vdx, rfl, cx.keep (Keep.same t1), tb_same t1 tb9, fun K2 f2 t2 g2 => ?_⟩
      refine ⟨_, _, Bd a c, rfl, g2.dt, w1, w2, w3, ?_⟩
      generalize PyData.shown _ = X
      refine ⟨rfl, _, rfl, ite2 (fun h => absurd h (str_no _)) fun hX => ?_⟩
      clear hX X
      have t12 := t1.trans t2
      have dkK := deck_same t12 dk9
      replace cx := cx.keep (Keep.same t12)
      replace cz := cz.keep (Keep.same t12)
      have c5' := cm5.keep (Keep.same t12)
      clear g1 g2 w1 w2 w3 tb9 dk9 cm5 t12 t1 t2
      -- four pairs
      refine ⟨_, rfl, _, rfl, by show 2 ≤ sizeLine; decide, fun q1 hq1 => ?_⟩
      have sq1 := same_new (o := .tup [x, z]) hq1
      have rq1 : Rd (upd K2 q1 (.tup [x, z])) q1 (.tup [x, z]) := .inl upd_same
      generalize upd K2 q1 (.tup [x, z]) = M1 at *
      refine ⟨_, rfl, _, rfl, by show 2 ≤ sizeLine; decide, fun q2 hq2 => ?_⟩
      have sq2 := same_new (o := .tup [z, x]) hq2
      have rq2 : Rd (upd M1 q2 (.tup [z, x])) q2 (.tup [z, x]) := .inl upd_same
      generalize upd M1 q2 (.tup [z, x]) = M2 at *
      refine ⟨_, rfl, _, rfl, by show 2 ≤ sizeLine; decide, fun q3 hq3 => ?_⟩
      have sq3 := same_new (o := .tup [x, v5]) hq3
      have rq3 : Rd (upd M2 q3 (.tup [x, v5])) q3 (.tup [x, v5]) := .inl upd_same
      generalize upd M2 q3 (.tup [x, v5]) = M3 at *
      refine ⟨_, rfl, _, rfl, by show 2 ≤ sizeLine; decide, fun q4 hq4 => ?_⟩
      have sq4 := same_new (o := .tup [v5, z]) hq4
      have rq4 : Rd (upd M3 q4 (.tup [v5, z])) q4 (.tup [v5, z]) := .inl upd_same
      generalize upd M3 q4 (.tup [v5, z]) = M4 at *
      refine ⟨by show 4 ≤ sizeLine; decide, fun pl M5 s5 npl _ lpl => ?_⟩
      have all4 : ∀ v ∈ [V.ref q1, V.ref q2, V.ref q3, V.ref q4], PairOk a c M5 v := fun v hv => by
        have k1 := ((sq1.trans sq2).trans (sq3.trans sq4)).trans s5
        have x5 := cx.keep (Keep.same k1)
        have z5 := cz.keep (Keep.same k1)
        have a5 := c5'.keep (Keep.same k1)
        have lxz : rwx.length * rwz.length ≤ 90 := Nat.le_trans (Nat.mul_le_mul lx lz) (by decide)
        have lzx : rwz.length * rwx.length ≤ 90 := Nat.le_trans (Nat.mul_le_mul lz lx) (by decide)
        have l3 : rw5.length ≤ 9 := by omega
        have lxa : rwx.length * rw5.length ≤ 90 := Nat.le_trans (Nat.mul_le_mul lx l3) (by decide)
        have laz : rw5.length * rwz.length ≤ 90 := Nat.le_trans (Nat.mul_le_mul l3 lz) (by decide)
        simp only [List.mem_cons, List.not_mem_nil, or_false] at hv
        rcases hv with hv | hv | hv | hv
        · exact ⟨q1, _, _, _, _, _, _, _, _, hv, same_rd ((sq2.trans (sq3.trans sq4)).trans s5) rq1, x5, z5, lxz⟩
        · exact ⟨q2, _, _, _, _, _, _, _, _, hv, same_rd ((sq3.trans sq4).trans s5) rq2, z5, x5, lzx⟩
        · exact ⟨q3, _, _, _, _, _, _, _, _, hv, same_rd (sq4.trans s5) rq3, x5, a5, lxa⟩
        · exact ⟨q4, _, _, _, _, _, _, _, _, hv, same_rd s5 rq4, a5, z5, laz⟩
      have dkM := deck_same (((sq1.trans sq2).trans (sq3.trans sq4)).trans s5) dkK
      clear sq1 sq2 sq3 sq4 rq1 rq2 rq3 rq4 s5 cx cz c5' dkK hq1 hq2 hq3 hq4
      refine ⟨pl, rfl, ⟨_, SqL.of lpl⟩, ?_⟩
      refine for_list (K := K) (a := pl) (xs := [V.ref q1, V.ref q2, V.ref q3, V.ref q4]) (fun j σ H'' => (∃ y2 y8 y9, σ = [some (V.ref l), some (V.ref a), y2, some (V.int (1 + r)), some (V.ref q), some x, some z, some v5, y8, y9, none, none, none, none]) ∧ Same M5 H'') ⟨⟨_, _, _, rfl⟩, Same.refl M5⟩ (fun j σ H'' _ q' => SqL.of (q'.2 _ _ lpl)) ?_ ?_
      · rintro j v σ H'' hv ⟨⟨y2, y8, y9, rfl⟩, sf⟩
        obtain ⟨qq, u1, u2, L1, L2, rr1, rr2, d1, d2, rfl, hq0, ca, cb, m90⟩ := (all4 v (List.mem_of_getElem? hv)).same sf
        have dkF := deck_same sf dkM
        have tbF : TB (Bd a c) H'' := fun b z e => deck_off dkF e z
        obtain ⟨w1, w2, w3⟩ := told_ok ca cb
        refine ⟨qq, _, rfl, .inl hq0, rfl, _, _, rfl, _, _, rfl, rfl, ?_⟩
        refine ⟨_, rfl, _, rfl, Bd a c, u1, u2, L1, L2, _, _, d1, d2, rfl, ca, cb, tbF, m90, fun N1 f1 t1 g1 => ⟨_, _, Bd a c, rfl, g1, w1, w2, w3, ?_⟩⟩
        refine ⟨_, rfl, _, rfl, Bd a c, u1, u2, L1, L2, _, _, d1, d2, rfl, ca.keep (Keep.same t1), cb.keep (Keep.same t1), tb_same t1 tbF, m90, fun N2 f2 t2 g2 => ⟨_, _, Bd a c, rfl, g2, w1, w2, w3, ?_⟩⟩
        generalize PyData.shown _ = X
        refine ⟨rfl, _, rfl, ite2 (fun h => absurd h (str_no _)) fun hX => ?_⟩
        exact ⟨⟨_, _, _, rfl⟩, (sf.trans t1).trans t2⟩
      · rintro σ H'' ⟨⟨y2, y8, y9, rfl⟩, sf⟩
        exact ⟨⟨_, _, _, _, _, _, _, _, rfl⟩, c9, n9, deck_same sf dkM, by omega, by omega⟩
  · rintro σ H2 ⟨⟨y2, y3, y4, y5, y6, y7, y8, y9, rfl⟩, cells, n, dk, n0, n1⟩
    refine ⟨_, rfl, a, c, cells, n, 3, rfl, dk, by decide, by decide, n0, by omega, fun H3 cells3 r r0 r3 dk3 k3 => ⟨1, r, rfl, rfl, ?_⟩⟩
    refine ⟨_, rfl, a, c, cells3, n + 1, 3, rfl, dk3, by decide, by decide, by omega, by omega, fun H4 cells4 s0 s00 s03 dk4 k4 => ⟨7, s0, rfl, rfl, ?_⟩⟩
    refine ⟨_, rfl, 1 + r, rfl, by omega, by omega, fun H5 p5 s5 np5 lp5 => ?_⟩
    refine ⟨p5, _, rfl, .inl (SqL.of lp5), ?_⟩
    have hW : ((colsS (1 + r)).map V.str).length = wide (1 + r) := by rw [List.length_map, cols_len (by omega) (by omega)]
    have W15 : 3 ≤ wide (1 + r) ∧ wide (1 + r) ≤ 15 := by
      rcases L123 (L := 1 + r) (by omega) (by omega) with e | e | e <;> (rw [e]; decide)
    rw [hW]
    have dk5 := deck_same s5 dk4
    have L1 : 1 ≤ 1 + r := by omega
    have L3 : 1 + r ≤ 3 := by omega
    have S7 : 7 ≤ 7 + s0 := by omega
    have S9 : 7 + s0 ≤ 9 := by omega
    clear lp5 np5 s5 k4 k3 dk4 dk3 dk
    refine ⟨_, rfl, _, rfl, 7 + s0, rfl, by omega, by omega, fun D hD => ?_⟩
    refine lc_range (lo := 0) (n := (7 + s0).toNat) (fun j H' => RInv a c D H5 (1 + r) (7 + s0) (n + 1 + 1) j H') ⟨cells4, n + 1 + 1, [], [], deck_new dk5 hD, Int.le_refl _, by omega, keep_new hD, upd_same, .nil, rfl, fun r z => absurd z List.not_mem_nil⟩ ?_ ?_
    · rintro j H6 hj ⟨cells6, n6, rvs, rws, dk6, h01, h02, kp, hD6, hpr, hl6, hr6⟩
      refine ⟨rfl, _, rfl, _, _, rfl, rfl, .inl ⟨_, rfl, _, rfl, _, _, rfl, rfl, (by omega), ?_⟩⟩
      refine ⟨by show 1 ≤ sizeLine; decide, fun z hz => ?_⟩
      have tz := same_new (o := .tup [V.int ((0 + (j : Int) + 1) % (7 + s0))]) hz
      have rz : Rd (upd H6 z (.tup [V.int ((0 + (j : Int) + 1) % (7 + s0))])) z (.tup [V.int ((0 + (j : Int) + 1) % (7 + s0))]) := .inl upd_same
      have b0 := Int.emod_nonneg (0 + (j : Int) + 1) (b := 7 + s0) (by omega)
      have b1 := Int.emod_lt_of_pos (0 + (j : Int) + 1) (b := 7 + s0) (by omega)
      refine ⟨_, rfl, z, (wide (1 + r) : Int), _, rfl, rfl, rz, List.cons_ne_nil _ _, by omega, by omega, by show 1 ≤ 1000; decide, fun zq G6 t2 rzq _ => ?_⟩
      rw [flat_one, Int.toNat_natCast] at rzq
      exact rturnO hD (deck_off dk5 hD) (by omega) kp hD6 hpr hl6 hr6 (tz.trans t2) (deck_same (tz.trans t2) dk6) List.length_replicate (fun x hx => by rw [List.eq_of_mem_replicate hx]; exact ⟨b0, b1⟩) (by rw [List.map_replicate]; exact rzq) h01 h02
    · rintro H6 ⟨cells6, n6, rvs, rws, dk6, h01, h02, kp, hD6, hpr, hl6, hr6⟩
      refine ⟨D, rvs, rfl, .inl ⟨SqL.of hD6, fun q1 hq1 => ?_⟩⟩
      have sq1 := same_new (o := .tup rvs) hq1
      have rq1 : Rd (upd H6 q1 (.tup rvs)) q1 (.tup rvs) := .inl upd_same
      have dk7 := deck_same sq1 dk6
      have nb1 := deck_off dk6 hq1
      have pr7 := paired_imp (fun _ _ h => RowAt.keep (Keep.same sq1) (RowAt.weak (fun b z => .inl z) h)) hpr
      generalize upd H6 q1 (.tup rvs) = M1 at *
      refine ⟨by show 1 ≤ sizeLine; decide, fun z hz => ?_⟩
      have tz := same_new (o := .tup [V.int 0]) hz
      have rz : Rd (upd M1 z (.tup [V.int 0])) z (.tup [V.int 0]) := .inl upd_same
      generalize upd M1 z (.tup [V.int 0]) = M2 at *
      refine ⟨_, rfl, z, 7 + s0, _, rfl, rfl, rz, List.cons_ne_nil _ _, by omega, by omega, by decide, fun q2 M3 t2 rq2 _ => ⟨by show 3 ≤ sizeLine; decide, fun q3 hq3 => ?_⟩⟩
      rw [flat_one] at rq2
      have dk8 := deck_same (tz.trans t2) dk7
      have s3 := same_new (o := .tup [.int (1 + r), .ref q1, .ref q2]) hq3
      have dk9 := deck_same s3 dk8
      have cA : CAt (Bd a c) (upd M3 q3 (.tup [.int (1 + r), .ref q1, .ref q2])) (.ref q3) (1 + r) rws (List.replicate (7 + s0).toNat 0) :=
        ⟨⟨q3, q1, q2, rvs, rfl, deck_off dk8 hq3, nb1, deck_notup dk8 rq2, .inl upd_same, same_rd ((tz.trans t2).trans s3) rq1, same_rd s3 (by rw [List.map_replicate]; exact rq2), paired_imp (fun _ _ => RowAt.keep (Keep.same ((tz.trans t2).trans s3))) pr7⟩, L1, L3, by omega, by omega, fun y hy => ⟨(hr6 y hy).1, fun u hu => by have := (hr6 y hy).2 u hu; omega⟩, by rw [List.length_replicate]; omega, fun y hy => by rw [List.eq_of_mem_replicate hy]; decide⟩
      generalize upd M3 q3 (.tup [.int (1 + r), .ref q1, .ref q2]) = M4 at *
      clear rq1 rq2 rz tz t2 s3 dk8 dk7 sq1 pr7 hpr hr6 kp hD6 hz hq1 hq3 dk6 nb1 hD
      refine ⟨_, rfl, _, rfl, _, _, rfl, rfl, 7 + s0 + 1, rfl, by omega, by omega, fun E1 iD => ?_⟩
      refine lc_range (lo := 0) (n := (7 + s0 + 1).toNat) (fun j H' => RInv a c E1 M4 (1 + r) (7 + s0 + 1) n6 j H') ⟨cells6, n6, [], [], deck_new dk9 iD, Int.le_refl _, by omega, keep_new iD, upd_same, .nil, rfl, fun r z => absurd z List.not_mem_nil⟩ ?_ ?_
      · rintro j I6 hj ⟨dells6, o6, svs, sws, ek6, i01, i02, kq, iD6, ipr, il6, ir6⟩
        refine ⟨rfl, _, rfl, _, _, rfl, rfl, .inl ⟨_, rfl, _, rfl, _, _, rfl, rfl, _, _, rfl, rfl, (by omega), ?_⟩⟩
        refine ⟨by show 1 ≤ sizeLine; decide, fun z hz => ?_⟩
        have uz := same_new (o := .tup [V.int ((0 + (j : Int) + 1) % (7 + s0 + 1))]) hz
        have xz : Rd (upd I6 z (.tup [V.int ((0 + (j : Int) + 1) % (7 + s0 + 1))])) z (.tup [V.int ((0 + (j : Int) + 1) % (7 + s0 + 1))]) := .inl upd_same
        have b0 := Int.emod_nonneg (0 + (j : Int) + 1) (b := 7 + s0 + 1) (by omega)
        have b1 := Int.emod_lt_of_pos (0 + (j : Int) + 1) (b := 7 + s0 + 1) (by omega)
        refine ⟨_, rfl, z, (wide (1 + r) : Int), _, rfl, rfl, xz, List.cons_ne_nil _ _, by omega, by omega, by show 1 ≤ 1000; decide, fun zq G6 u2 rzq _ => ?_⟩
        rw [flat_one, Int.toNat_natCast] at rzq
        exact rturnO iD (deck_off dk9 iD) (by omega) kq iD6 ipr il6 ir6 (uz.trans u2) (deck_same (uz.trans u2) ek6) List.length_replicate (fun x hx => by rw [List.eq_of_mem_replicate hx]; exact ⟨b0, b1⟩) (by rw [List.map_replicate]; exact rzq) i01 i02
      · rintro I6 ⟨dells6, o6, svs, sws, ek6, i01, i02, kq, iD6, ipr, il6, ir6⟩
        refine ⟨E1, svs, rfl, .inl ⟨SqL.of iD6, fun p1 hq1 => ?_⟩⟩
        have sq1 := same_new (o := .tup svs) hq1
        have rq1 : Rd (upd I6 p1 (.tup svs)) p1 (.tup svs) := .inl upd_same
        have ek7 := deck_same sq1 ek6
        have mb1 := deck_off ek6 hq1
        have pp7 := paired_imp (fun _ _ h => RowAt.keep (Keep.same sq1) (RowAt.weak (fun b z => .inl z) h)) ipr
        generalize upd I6 p1 (.tup svs) = O1 at *
        refine ⟨by show 1 ≤ sizeLine; decide, fun z hz => ?_⟩
        have uz := same_new (o := .tup [V.int 0]) hz
        have xz : Rd (upd O1 z (.tup [V.int 0])) z (.tup [V.int 0]) := .inl upd_same
        generalize upd O1 z (.tup [V.int 0]) = O2 at *
        refine ⟨_, rfl, _, _, rfl, rfl, z, 7 + s0 + 1, _, rfl, rfl, xz, List.cons_ne_nil _ _, by omega, by omega, by decide, fun p2 O3 u2 rq2 _ => ⟨by show 3 ≤ sizeLine; decide, fun p3 hq3 => ?_⟩⟩
        rw [flat_one] at rq2
        have ek8 := deck_same (uz.trans u2) ek7
        have w3 := same_new (o := .tup [.int (1 + r), .ref p1, .ref p2]) hq3
        have ek9 := deck_same w3 ek8
        have cB : CAt (Bd a c) (upd O3 p3 (.tup [.int (1 + r), .ref p1, .ref p2])) (.ref p3) (1 + r) sws (List.replicate (7 + s0 + 1).toNat 0) :=
          ⟨⟨p3, p1, p2, svs, rfl, deck_off ek8 hq3, mb1, deck_notup ek8 rq2, .inl upd_same, same_rd ((uz.trans u2).trans w3) rq1, same_rd w3 (by rw [List.map_replicate]; exact rq2), paired_imp (fun _ _ => RowAt.keep (Keep.same ((uz.trans u2).trans w3))) pp7⟩, L1, L3, by omega, by omega, fun y hy => ⟨(ir6 y hy).1, fun u hu => by have := (ir6 y hy).2 u hu; omega⟩, by rw [List.length_replicate]; omega, fun y hy => by rw [List.eq_of_mem_replicate hy]; decide⟩
        have cA' := cA.keep (kq.trans (Keep.same ((sq1.trans (uz.trans u2)).trans w3)))
        have m90 : rws.length * sws.length ≤ 90 := Nat.le_trans (Nat.mul_le_mul (show rws.length ≤ 9 by omega) (show sws.length ≤ 10 by omega)) (by decide)
        have tbZ : TB (Bd a c) (upd O3 p3 (.tup [.int (1 + r), .ref p1, .ref p2])) := fun b z e => deck_off ek9 e z
        obtain ⟨x1, x2, x3⟩ := told_ok cA' cB
        refine ⟨_, rfl, _, rfl, Bd a c, .ref q3, .ref p3, 1 + r, 1 + r, _, _, _, _, rfl, cA', cB, tbZ, m90, fun N1 f1 t1 g1 => ⟨_, _, Bd a c, rfl, g1, x1, x2, x3, ?_⟩⟩
        refine ⟨_, rfl, _, rfl, Bd a c, .ref q3, .ref p3, 1 + r, 1 + r, _, _, _, _, rfl, cA'.keep (Keep.same t1), cB.keep (Keep.same t1), tb_same t1 tbZ, m90, fun N2 f2 t2 g2 => ⟨_, _, Bd a c, rfl, g2, x1, x2, x3, ?_⟩⟩
        generalize PyData.shown _ = X
        refine ⟨rfl, ?_⟩
        show Q (V.bl (decide (V.str X = V.str X))) N2
        rw [decide_eq_true rfl]
        exact k N2
end
theorem all_mk {l : PySem.W.OpenLaw} {w : World} {K : PySem.W.Frag} {h : Heap} {mg : Str → Option Value} {fa f0 f1 f2 f3 f4 f5 f6 f7 f8 f9 f10 f11 f12 f13 f14 f15 f16 f17 CU CG : Addr} (inK : K.In h) (atG : h.Ns mainGlobals mg) (hfa : mg "law" = some (.ref fa))
    {odd0 and0 odd1 and1 odd2 and2 odd3 and3 odd4 and4 odd5 and5 odd6 and6 odd7 and7 odd8 and8 odd9 and9 odd10 and10 odd11 and11 odd12 and12 odd13 and13 odd14 and14 odd15 and15 odd16 and16 odd17 and17 : Option Addr} {sld0 sld1 sld2 sld3 sld4 sld5 sld6 sld7 sld8 sld9 sld10 sld11 sld12 sld13 sld14 sld15 sld16 sld17 : Array (Option Value)} {ocd0 kVd0 dcd0 pmd0 cdd0 ctd0 ocd1 kVd1 dcd1 pmd1 cdd1 ctd1 ocd2 kVd2 dcd2 pmd2 cdd2 ctd2 ocd3 kVd3 dcd3 pmd3 cdd3 ctd3 ocd4 kVd4 dcd4 pmd4 cdd4 ctd4 ocd5 kVd5 dcd5 pmd5 cdd5 ctd5 ocd6 kVd6 dcd6 pmd6 cdd6 ctd6 ocd7 kVd7 dcd7 pmd7 cdd7 ctd7 ocd8 kVd8 dcd8 pmd8 cdd8 ctd8 ocd9 kVd9 dcd9 pmd9 cdd9 ctd9 ocd10 kVd10 dcd10 pmd10 cdd10 ctd10 ocd11 kVd11 dcd11 pmd11 cdd11 ctd11 ocd12 kVd12 dcd12 pmd12 cdd12 ctd12 ocd13 kVd13 dcd13 pmd13 cdd13 ctd13 ocd14 kVd14 dcd14 pmd14 cdd14 ctd14 ocd15 kVd15 dcd15 pmd15 cdd15 ctd15 ocd16 kVd16 dcd16 pmd16 cdd16 ctd16 ocd17 kVd17 dcd17 pmd17 cdd17 ctd17 : Value} {t0 : Tok}
    (a0 : PySem.W.nsIn K mainGlobals "columns" = some (some (.ref f0)))
    (l0 : K.lookup f0 = some ⟨ocd0, odd0, .func (PySem.W.fnOf "columns" "columns" (defArgs sCols) (defBody sCols) (defScope sCols) .none kVd0 dcd0 pmd0 and0 cdd0 ctd0), sld0⟩)
    (c0 : PySem.W.codeIn K cdd0 "columns" = true)
    (k0 : PySem.W.keepIn K (.ref f0) = true)
    (a1 : PySem.W.nsIn K mainGlobals "by_ranks" = some (some (.ref f1)))
    (l1 : K.lookup f1 = some ⟨ocd1, odd1, .func (PySem.W.fnOf "by_ranks" "by_ranks" (defArgs sByRanks) (defBody sByRanks) (defScope sByRanks) .none kVd1 dcd1 pmd1 and1 cdd1 ctd1), sld1⟩)
    (c1 : PySem.W.codeIn K cdd1 "by_ranks" = true)
    (k1 : PySem.W.keepIn K (.ref f1) = true)
    (a2 : PySem.W.nsIn K mainGlobals "ranked" = some (some (.ref f2)))
    (l2 : K.lookup f2 = some ⟨ocd2, odd2, .func (PySem.W.fnOf "ranked" "ranked" (defArgs sRanked) (defBody sRanked) (defScope sRanked) .none kVd2 dcd2 pmd2 and2 cdd2 ctd2), sld2⟩)
    (c2 : PySem.W.codeIn K cdd2 "ranked" = true)
    (k2 : PySem.W.keepIn K (.ref f2) = true)
    (a3 : PySem.W.nsIn K mainGlobals "by_length" = some (some (.ref f3)))
    (l3 : K.lookup f3 = some ⟨ocd3, odd3, .func (PySem.W.fnOf "by_length" "by_length" (defArgs sByLen) (defBody sByLen) (defScope sByLen) .none kVd3 dcd3 pmd3 and3 cdd3 ctd3), sld3⟩)
    (c3 : PySem.W.codeIn K cdd3 "by_length" = true)
    (k3 : PySem.W.keepIn K (.ref f3) = true)
    (a4 : PySem.W.nsIn K mainGlobals "turned" = some (some (.ref f4)))
    (l4 : K.lookup f4 = some ⟨ocd4, odd4, .func (PySem.W.fnOf "turned" "turned" (defArgs sTurned) (defBody sTurned) (defScope sTurned) .none kVd4 dcd4 pmd4 and4 cdd4 ctd4), sld4⟩)
    (c4 : PySem.W.codeIn K cdd4 "turned" = true)
    (k4 : PySem.W.keepIn K (.ref f4) = true)
    (a5 : PySem.W.nsIn K mainGlobals "then" = some (some (.ref f5)))
    (l5 : K.lookup f5 = some ⟨ocd5, odd5, .func (PySem.W.fnOf "then" "then" (defArgs sThen) (defBody sThen) (defScope sThen) .none kVd5 dcd5 pmd5 and5 cdd5 ctd5), sld5⟩)
    (c5 : PySem.W.codeIn K cdd5 "then" = true)
    (k5 : PySem.W.keepIn K (.ref f5) = true)
    (a6 : PySem.W.nsIn K mainGlobals "_law_deck" = some (some (.ref f6)))
    (l6 : K.lookup f6 = some ⟨ocd6, odd6, .func (PySem.W.fnOf "_law_deck" "_law_deck" (defArgs sDeck) (defBody sDeck) (defScope sDeck) .none kVd6 dcd6 pmd6 and6 cdd6 ctd6), sld6⟩)
    (c6 : PySem.W.codeIn K cdd6 "_law_deck" = true)
    (k6 : PySem.W.keepIn K (.ref f6) = true)
    (a7 : PySem.W.nsIn K mainGlobals "_law_draw" = some (some (.ref f7)))
    (l7 : K.lookup f7 = some ⟨ocd7, odd7, .func (PySem.W.fnOf "_law_draw" "_law_draw" (defArgs sDraw) (defBody sDraw) (defScope sDraw) .none kVd7 dcd7 pmd7 and7 cdd7 ctd7), sld7⟩)
    (c7 : PySem.W.codeIn K cdd7 "_law_draw" = true)
    (k7 : PySem.W.keepIn K (.ref f7) = true)
    (a8 : PySem.W.nsIn K mainGlobals "_law_one" = some (some (.ref f8)))
    (l8 : K.lookup f8 = some ⟨ocd8, odd8, .func (PySem.W.fnOf "_law_one" "_law_one" (defArgs sOne) (defBody sOne) (defScope sOne) .none kVd8 dcd8 pmd8 and8 cdd8 ctd8), sld8⟩)
    (c8 : PySem.W.codeIn K cdd8 "_law_one" = true)
    (k8 : PySem.W.keepIn K (.ref f8) = true)
    (a9 : PySem.W.nsIn K mainGlobals "_law_columns" = some (some (.ref f9)))
    (l9 : K.lookup f9 = some ⟨ocd9, odd9, .func (PySem.W.fnOf "_law_columns" "_law_columns" (defArgs sColsL) (defBody sColsL) (defScope sColsL) .none kVd9 dcd9 pmd9 and9 cdd9 ctd9), sld9⟩)
    (c9 : PySem.W.codeIn K cdd9 "_law_columns" = true)
    (k9 : PySem.W.keepIn K (.ref f9) = true)
    (a10 : PySem.W.nsIn K mainGlobals "_law_comp" = some (some (.ref f10)))
    (l10 : K.lookup f10 = some ⟨ocd10, odd10, .func (PySem.W.fnOf "_law_comp" "_law_comp" (defArgs sComp) (defBody sComp) (defScope sComp) .none kVd10 dcd10 pmd10 and10 cdd10 ctd10), sld10⟩)
    (c10 : PySem.W.codeIn K cdd10 "_law_comp" = true)
    (k10 : PySem.W.keepIn K (.ref f10) = true)
    (a11 : PySem.W.nsIn K mainGlobals "_law_ranked" = some (some (.ref f11)))
    (l11 : K.lookup f11 = some ⟨ocd11, odd11, .func (PySem.W.fnOf "_law_ranked" "_law_ranked" (defArgs sRankedL) (defBody sRankedL) (defScope sRankedL) .none kVd11 dcd11 pmd11 and11 cdd11 ctd11), sld11⟩)
    (c11 : PySem.W.codeIn K cdd11 "_law_ranked" = true)
    (k11 : PySem.W.keepIn K (.ref f11) = true)
    (a12 : PySem.W.nsIn K mainGlobals "_law_turned" = some (some (.ref f12)))
    (l12 : K.lookup f12 = some ⟨ocd12, odd12, .func (PySem.W.fnOf "_law_turned" "_law_turned" (defArgs sTurnedL) (defBody sTurnedL) (defScope sTurnedL) .none kVd12 dcd12 pmd12 and12 cdd12 ctd12), sld12⟩)
    (c12 : PySem.W.codeIn K cdd12 "_law_turned" = true)
    (k12 : PySem.W.keepIn K (.ref f12) = true)
    (a13 : PySem.W.nsIn K mainGlobals "_law_then" = some (some (.ref f13)))
    (l13 : K.lookup f13 = some ⟨ocd13, odd13, .func (PySem.W.fnOf "_law_then" "_law_then" (defArgs sThenL) (defBody sThenL) (defScope sThenL) .none kVd13 dcd13 pmd13 and13 cdd13 ctd13), sld13⟩)
    (c13 : PySem.W.codeIn K cdd13 "_law_then" = true)
    (k13 : PySem.W.keepIn K (.ref f13) = true)
    (a14 : PySem.W.nsIn K mainGlobals "_law_order" = some (some (.ref f14)))
    (l14 : K.lookup f14 = some ⟨ocd14, odd14, .func (PySem.W.fnOf "_law_order" "_law_order" (defArgs sOrder) (defBody sOrder) (defScope sOrder) .none kVd14 dcd14 pmd14 and14 cdd14 ctd14), sld14⟩)
    (c14 : PySem.W.codeIn K cdd14 "_law_order" = true)
    (k14 : PySem.W.keepIn K (.ref f14) = true)
    (a15 : PySem.W.nsIn K mainGlobals "_law_told" = some (some (.ref f15)))
    (l15 : K.lookup f15 = some ⟨ocd15, odd15, .func (PySem.W.fnOf "_law_told" "_law_told" (defArgs sTold) (defBody sTold) (defScope sTold) .none kVd15 dcd15 pmd15 and15 cdd15 ctd15), sld15⟩)
    (c15 : PySem.W.codeIn K cdd15 "_law_told" = true)
    (k15 : PySem.W.keepIn K (.ref f15) = true)
    (a16 : PySem.W.nsIn K mainGlobals "_law_due" = some (some (.ref f16)))
    (l16 : K.lookup f16 = some ⟨ocd16, odd16, .func (PySem.W.fnOf "_law_due" "_law_due" (defArgs sDue) (defBody sDue) (defScope sDue) .none kVd16 dcd16 pmd16 and16 cdd16 ctd16), sld16⟩)
    (c16 : PySem.W.codeIn K cdd16 "_law_due" = true)
    (k16 : PySem.W.keepIn K (.ref f16) = true)
    (a17 : PySem.W.nsIn K mainGlobals "law" = some (some (.ref f17)))
    (l17 : K.lookup f17 = some ⟨ocd17, odd17, .func (PySem.W.fnOf "law" "law" (defArgs sLaw) (defBody sLaw) (defScope sLaw) .none kVd17 dcd17 pmd17 and17 cdd17 ctd17), sld17⟩)
    (c17 : PySem.W.codeIn K cdd17 "law" = true)
    (k17 : PySem.W.keepIn K (.ref f17) = true)
    (z0 : PySem.W.nsIn K mainGlobals "len" = some none)
    (z1 : PySem.W.nsIn K mainGlobals "int" = some none)
    (z2 : PySem.W.nsIn K mainGlobals "range" = some none)
    (z3 : PySem.W.nsIn K mainGlobals "tuple" = some none)
    (z4 : PySem.W.nsIn K mainGlobals "abs" = some none)
    (z5 : PySem.W.nsIn K mainGlobals "repr" = some none)
    (z6 : PySem.W.nsIn K mainGlobals "zip" = some none)
    (m0 : PySem.W.nsIn K mainGlobals "MAX_STANDS" = some (some (.int 60 t0)))
    (gCU : PySem.W.nsIn K mainGlobals "Unlike" = some (some (.ref CU)))
    (xCU : PySem.W.excIn K CU [.type "ValueError", .type "Exception", .type "BaseException", .type "object"] "ValueError.__new__" = true)
    (kCU : PySem.W.keepIn K (.ref CU) = true)
    (bCU : PySem.W.subIn K (.ref CU) (.type "BaseException") = some true)
    (tCU : PySem.W.typeIn K (.ref CU) = some (.type "type"))
    (gCG : PySem.W.nsIn K mainGlobals "TooGreat" = some (some (.ref CG)))
    (xCG : PySem.W.excIn K CG [.type "ValueError", .type "Exception", .type "BaseException", .type "object"] "ValueError.__new__" = true)
    (kCG : PySem.W.keepIn K (.ref CG) = true)
    (bCG : PySem.W.subIn K (.ref CG) (.type "BaseException") = some true)
    (tCG : PySem.W.typeIn K (.ref CG) = some (.type "type"))
    (uu : PySem.W.exmOne K (.ref CU) (.ref CU) = some true)
    (gu : PySem.W.exmOne K (.ref CG) (.ref CU) = some false)
    (gg : PySem.W.exmOne K (.ref CG) (.ref CG) = some true) :
    ∃ fd : FuncData, (∀ (s : Shared) (v : Value), BindsTo s fd ⟨[v], []⟩ [("_law_script", v)]) ∧ ∀ base : Heap, K.In base → base.Ns mainGlobals mg → GRun l.prog w K mg base 4 fa fd ["_law_script"] (spLaw K) := by
  have e := hfa.symm.trans (PySem.W.mg_of inK atG a17)
  cases e
  have T : Mg mg := ⟨PySem.W.mg_none_of inK atG z0, PySem.W.mg_none_of inK atG z1, PySem.W.mg_none_of inK atG z2, PySem.W.mg_none_of inK atG z3, PySem.W.mg_none_of inK atG z4, PySem.W.mg_none_of inK atG z5, PySem.W.mg_none_of inK atG z6, ⟨_, PySem.W.mg_of inK atG m0⟩⟩
  have F0 := fun_mk (st := sCols) l0 c0 k0
  have b0 := F0.binds (ps := ["letters"]) fun _ _ _ _ _ _ us hl => match us, hl with | [_], _ => rfl
  have g0 := PySem.W.mg_of inK atG a0
  have F1 := fun_mk (st := sByRanks) l1 c1 k1
  have b1 := F1.binds (ps := ["letters", "ranks"]) fun _ _ _ _ _ _ us hl => match us, hl with | [_, _], _ => rfl
  have g1 := PySem.W.mg_of inK atG a1
  have F2 := fun_mk (st := sRanked) l2 c2 k2
  have b2 := F2.binds (ps := ["first", "second", "ranks"]) fun _ _ _ _ _ _ us hl => match us, hl with | [_, _, _], _ => rfl
  have g2 := PySem.W.mg_of inK atG a2
  have F3 := fun_mk (st := sByLen) l3 c3 k3
  have b3 := F3.binds (ps := ["letters"]) fun _ _ _ _ _ _ us hl => match us, hl with | [_], _ => rfl
  have g3 := PySem.W.mg_of inK atG a3
  have F4 := fun_mk (st := sTurned) l4 c4 k4
  have b4 := F4.binds (ps := ["comp"]) fun _ _ _ _ _ _ us hl => match us, hl with | [_], _ => rfl
  have g4 := PySem.W.mg_of inK atG a4
  have F5 := fun_mk (st := sThen) l5 c5 k5
  have b5 := F5.binds (ps := ["one", "other"]) fun _ _ _ _ _ _ us hl => match us, hl with | [_, _], _ => rfl
  have g5 := PySem.W.mg_of inK atG a5
  have F6 := fun_mk (st := sDeck) l6 c6 k6
  have b6 := F6.binds (ps := ["_law_script"]) fun _ _ _ _ _ _ us hl => match us, hl with | [_], _ => rfl
  have g6 := PySem.W.mg_of inK atG a6
  have F7 := fun_mk (st := sDraw) l7 c7 k7
  have b7 := F7.binds (ps := ["_law_deck_here", "_law_most"]) fun _ _ _ _ _ _ us hl => match us, hl with | [_, _], _ => rfl
  have g7 := PySem.W.mg_of inK atG a7
  have F8 := fun_mk (st := sOne) l8 c8 k8
  have b8 := F8.binds (ps := ["_law_deck_here", "_law_items"]) fun _ _ _ _ _ _ us hl => match us, hl with | [_, _], _ => rfl
  have g8 := PySem.W.mg_of inK atG a8
  have F9 := fun_mk (st := sColsL) l9 c9 k9
  have b9 := F9.binds (ps := ["_law_letters"]) fun _ _ _ _ _ _ us hl => match us, hl with | [_], _ => rfl
  have g9 := PySem.W.mg_of inK atG a9
  have F10 := fun_mk (st := sComp) l10 c10 k10
  have b10 := F10.binds (ps := ["_law_deck_here", "_law_letters", "_law_many"]) fun _ _ _ _ _ _ us hl => match us, hl with | [_, _, _], _ => rfl
  have g10 := PySem.W.mg_of inK atG a10
  have F11 := fun_mk (st := sRankedL) l11 c11 k11
  have b11 := F11.binds (ps := ["_law_letters", "_law_ranks"]) fun _ _ _ _ _ _ us hl => match us, hl with | [_, _], _ => rfl
  have g11 := PySem.W.mg_of inK atG a11
  have F12 := fun_mk (st := sTurnedL) l12 c12 k12
  have b12 := F12.binds (ps := ["_law_comp_here"]) fun _ _ _ _ _ _ us hl => match us, hl with | [_], _ => rfl
  have g12 := PySem.W.mg_of inK atG a12
  have F13 := fun_mk (st := sThenL) l13 c13 k13
  have b13 := F13.binds (ps := ["_law_one_here", "_law_other"]) fun _ _ _ _ _ _ us hl => match us, hl with | [_, _], _ => rfl
  have g13 := PySem.W.mg_of inK atG a13
  have F14 := fun_mk (st := sOrder) l14 c14 k14
  have b14 := F14.binds (ps := ["_law_deck_here", "_law_letters"]) fun _ _ _ _ _ _ us hl => match us, hl with | [_, _], _ => rfl
  have g14 := PySem.W.mg_of inK atG a14
  have F15 := fun_mk (st := sTold) l15 c15 k15
  have b15 := F15.binds (ps := ["_law_one_here", "_law_other"]) fun _ _ _ _ _ _ us hl => match us, hl with | [_, _], _ => rfl
  have g15 := PySem.W.mg_of inK atG a15
  have F16 := fun_mk (st := sDue) l16 c16 k16
  have b16 := F16.binds (ps := ["_law_one_here", "_law_other"]) fun _ _ _ _ _ _ us hl => match us, hl with | [_, _], _ => rfl
  have g16 := PySem.W.mg_of inK atG a16
  have F17 := fun_mk (st := sLaw) l17 c17 k17
  refine ⟨PySem.W.fnOf "law" "law" (defArgs sLaw) (defBody sLaw) (defScope sLaw) .none kVd17 dcd17 pmd17 and17 cdd17 ctd17, fun s v => .of_eq rfl, fun base _ _ => ?_⟩
  have GU := PySem.W.mg_of inK atG gCU
  have GG := PySem.W.mg_of inK atG gCG
  have TU : ErT K mg "Unlike" CU := ⟨xCU, GU, kCU, bCU, tCU⟩
  have TG : ErT K mg "TooGreat" CG := ⟨xCG, GG, kCG, bCG, tCG⟩
  have DK := ok_deck (P := l.prog) (w := w) (mg := mg) (base := base) F6 T.abs
  have D := ok_draw (P := l.prog) (w := w) (mg := mg) (base := base) F7 T.len T.int
  have O := ok_one F8 D F7 b7 g7 T.len
  have CL := ok_colsL (P := l.prog) (w := w) (mg := mg) (base := base) F9 T
  have C := ok_comp F10 D F7 b7 g7 O F8 b8 g8 CL F9 b9 g9 T
  have CO := ok_cols (P := l.prog) (w := w) (mg := mg) (base := base) F0 T
  have RA := ok_ranked (P := l.prog) (w := w) (mg := mg) (base := base) F2 T
  have BR := ok_byRanks F1 CO F0 b0 g0 RA F2 b2 g2 T
  have BL := ok_byLen F3 BR F1 b1 g1
  have TU1 := ok_turned (P := l.prog) (w := w) (mg := mg) (base := base) F4 T
  have TL := ok_turnedL (P := l.prog) (w := w) (mg := mg) (base := base) F12 T
  have RL := ok_rankedL F11 CL F9 b9 g9 T
  have TN := ok_thenL (P := l.prog) (w := w) (mg := mg) (base := base) F13 T
  have OR := ok_order F14 D F7 b7 g7 O F8 b8 g8 RL F11 b11 g11 TL F12 b12 g12 TN F13 b13 g13 T
  have TH := ok_then (P := l.prog) (w := w) (mg := mg) (base := base) F5 T TU TG
  have TD := ok_told F15 TH F5 b5 g5 GU GG uu gu gg
  have DU := ok_due F16 TN F13 b13 g13 T
  exact ok_law F17 DK F6 b6 g6 D F7 b7 g7 O F8 b8 g8 C F10 b10 g10 OR F14 b14 g14 BR F1 b1 g1 BL F3 b3 g3 RL F11 b11 g11 TU1 F4 b4 g4 TL F12 b12 g12 TD F15 b15 g15 DU F16 b16 g16 CL F9 b9 g9 T
end Ver
open PySem PySem.W PyProof.Rows in
set_option maxRecDepth 100000 in
set_option maxHeartbeats 0 in
theorem PySem.Challenge.cw_sortedshelves_k37_made_comparisons_holds : PySem.Challenge.rw_sortedshelves_k37_made_comparisons.Holds := by
  w_on; o_law; k_head; (case hw => w_witness2)
  k_fill
  refine Ver.gwalk (l := PySem.Challenge.rw_sortedshelves_k37_made_comparisons) (n := 63) (k := 4) (x := "_law_script") (sp := fun w => Ver.spLaw _) rfl (by decide) rfl ⟨rfl, by decide, by decide⟩ (fun w h Y => PySem.W.kIn_of Y) ?F (fun _ _ a ns hl hS => ⟨a, ns, rfl, hS, hl, fun _ => rfl⟩)
  case F =>
    intro w mg fa h inK atG hmg
    refine' Ver.all_mk inK atG hmg ?a0 ?l0 ?c0 ?k0 ?a1 ?l1 ?c1 ?k1 ?a2 ?l2 ?c2 ?k2 ?a3 ?l3 ?c3 ?k3 ?a4 ?l4 ?c4 ?k4 ?a5 ?l5 ?c5 ?k5 ?a6 ?l6 ?c6 ?k6 ?a7 ?l7 ?c7 ?k7 ?a8 ?l8 ?c8 ?k8 ?a9 ?l9 ?c9 ?k9 ?a10 ?l10 ?c10 ?k10 ?a11 ?l11 ?c11 ?k11 ?a12 ?l12 ?c12 ?k12 ?a13 ?l13 ?c13 ?k13 ?a14 ?l14 ?c14 ?k14 ?a15 ?l15 ?c15 ?k15 ?a16 ?l16 ?c16 ?k16 ?a17 ?l17 ?c17 ?k17 ?z0 ?z1 ?z2 ?z3 ?z4 ?z5 ?z6 ?m0 ?gCU ?xCU ?kCU ?bCU ?tCU ?gCG ?xCG ?kCG ?bCG ?tCG ?uu ?gu ?gg
    (case a0 => k_is)
    (case l0 => k_is)
    (case c0 => k_is)
    (case k0 => k_is)
    (case a1 => k_is)
    (case l1 => k_is)
    (case c1 => k_is)
    (case k1 => k_is)
    (case a2 => k_is)
    (case l2 => k_is)
    (case c2 => k_is)
    (case k2 => k_is)
    (case a3 => k_is)
    (case l3 => k_is)
    (case c3 => k_is)
    (case k3 => k_is)
    (case a4 => k_is)
    (case l4 => k_is)
    (case c4 => k_is)
    (case k4 => k_is)
    (case a5 => k_is)
    (case l5 => k_is)
    (case c5 => k_is)
    (case k5 => k_is)
    (case a6 => k_is)
    (case l6 => k_is)
    (case c6 => k_is)
    (case k6 => k_is)
    (case a7 => k_is)
    (case l7 => k_is)
    (case c7 => k_is)
    (case k7 => k_is)
    (case a8 => k_is)
    (case l8 => k_is)
    (case c8 => k_is)
    (case k8 => k_is)
    (case a9 => k_is)
    (case l9 => k_is)
    (case c9 => k_is)
    (case k9 => k_is)
    (case a10 => k_is)
    (case l10 => k_is)
    (case c10 => k_is)
    (case k10 => k_is)
    (case a11 => k_is)
    (case l11 => k_is)
    (case c11 => k_is)
    (case k11 => k_is)
    (case a12 => k_is)
    (case l12 => k_is)
    (case c12 => k_is)
    (case k12 => k_is)
    (case a13 => k_is)
    (case l13 => k_is)
    (case c13 => k_is)
    (case k13 => k_is)
    (case a14 => k_is)
    (case l14 => k_is)
    (case c14 => k_is)
    (case k14 => k_is)
    (case a15 => k_is)
    (case l15 => k_is)
    (case c15 => k_is)
    (case k15 => k_is)
    (case a16 => k_is)
    (case l16 => k_is)
    (case c16 => k_is)
    (case k16 => k_is)
    (case a17 => k_is)
    (case l17 => k_is)
    (case c17 => k_is)
    (case k17 => k_is)
    (case z0 => k_is)
    (case z1 => k_is)
    (case z2 => k_is)
    (case z3 => k_is)
    (case z4 => k_is)
    (case z5 => k_is)
    (case z6 => k_is)
    (case m0 => k_is)
    (case gCU => k_is)
    (case xCU => first | k_is | rfl | kernel_rfl)
    (case kCU => first | k_is | rfl | kernel_rfl)
    (case bCU => first | k_is | rfl | kernel_rfl)
    (case tCU => first | k_is | rfl | kernel_rfl)
    (case gCG => k_is)
    (case xCG => first | k_is | rfl | kernel_rfl)
    (case kCG => first | k_is | rfl | kernel_rfl)
    (case bCG => first | k_is | rfl | kernel_rfl)
    (case tCG => first | k_is | rfl | kernel_rfl)
    (case uu => first | k_is | rfl | kernel_rfl)
    (case gu => first | k_is | rfl | kernel_rfl)
    (case gg => first | k_is | rfl | kernel_rfl)
#print axioms PySem.Challenge.cw_sortedshelves_k37_made_comparisons_holds
