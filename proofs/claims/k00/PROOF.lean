import PyProof.Rows.All
import Wide.All
import OpenK.AllK
import Wide.FinOn
import PyProof.ReprRoads
import HandS.ForMost
import HandS.Conv
import HandS.IsInst
import HandS.TupAny
import HandS.TupMul
import HandS.Wide
import HandS.Style
import HandS.Evl
import HandS.Exc
import HandS.ExcInit
import HandS.ExcIs
import HandS.Defaults
import KE.KExcInit
import HandS.ExcValue
import PyProof.ReprLen
import PySem.Challenge.RW_sortedshelves_k00_errors_made_by_hand
set_option Elab.async false
set_option linter.all false
set_option maxRecDepth 100000
set_option maxHeartbeats 4000000
namespace Ver
open PySem PySem.Spec PyProof.Rows L2
/-! ### own error classes: stored to, made by place and by name -/
section
open Builtin Builtin.ObjectAttr PySem.W PySem.Calls PySem.HandSPX
variable {prog : Program} {w : World} {A : Around} {E : Value → Shared → Prop} {R : Result → Shared → Prop} {hp : Heap} {g : Array GenState} {d : Drawn} {t : Nat} {os : OsState}
/-- what a store asks of the class's line of bases -/
structure MroOk (m : List Value) : Prop where
  ne : m.isEmpty = false
  ob : m.contains (.type "object") = true
  pass : ∀ self : Value, refuseLoop self "__setattr__" m = pure ()
theorem es_new {K : W.Frag} {name : Str} {tk : Tok} {v : Value} {x C : Addr} {fv : Array Value} {cd : ClassData} (X : K.In hp) (hx : hp.get? x = some { cls := .ref C, data := .fields fv }) (hcd : W.clsIn K C = some cd) (hm : MroOk cd.mro) (hh : cd.hasDict = true)
    (ha : W.findIn K (.ref C) name = some none) (hq : ∀ h' tk' dx, (∀ b o, b ≠ x → hp.get? b = some o → h'.get? b = some o) → hp.objs.size ≤ dx → dx ≠ x → h'.get? x = some { cls := .ref C, dict := some dx, data := .fields fv } →
      h'.Ns1 dx (fun y => if y = name then some v else none) → R (.ok (.ret .none)) ⟨h', g, d, tk', os⟩) : codeAny (model prog w) A (.call (.builtin "object.__setattr__") ⟨[.ref x, .str name tk, v], []⟩) R ⟨hp, g, d, t, os⟩ := by
  have J : W.InstAt hp x { cls := .ref C, data := .fields fv } C none := ⟨hx, rfl, rfl, trivial⟩
  have S := F.store_object
  have xs : x ≠ hp.objs.size := Nat.ne_of_lt (Heap.lt_size hx)
  have lc : W.Looks (model prog w) hp (classData C) cd := W.looks_clsIn X hcd
  have lm : W.Looks (model prog w) hp (mroOf (.ref C)) cd.mro := lc.andThen .now
  have lt : W.Looks (model prog w) hp (storeTaker? none) none := .now
  have lo : W.Looks (model prog w) hp (isInstance (.ref x) (.type "object")) true := J.type.andThen (W.looks_mroIn X (by rw [W.mroIn, hcd, Option.bind_some, if_neg (by rw [hm.ne]; decide), hm.ob]))
  refine codeAny_call_builtin S.slot.plain S.entry (@W.check_slot (model prog w) _ _ ⟨hp, g, d, t, os⟩ "object.__setattr__" "object" "__setattr__" (.ref x) [.str name tk, v] [] _ S.kind S.split lo (S.args _ _ _) ?_)
  rw [W.osa_eq, refuse_eq]
  refine wpAny_bind (wpAny_bind (J.type.at (wpAny_bind (lm.at ?_))))
  rw [hm.pass]
  refine wpAny_pure (wpAny_bind (J.type.at (wpAny_bind ((W.looks_findIn X ha).at (wpAny_bind (lt.at ?_))))))
  show wpAny _ _ (storeInOwnDict (.ref x) (.ref C) (.str name tk) name v false) _ _ _
  obtain ⟨_, _, _, _, _, hd, _, _, _, _, _⟩ := cd
  cases hh
  unfold storeInOwnDict ownDictForStores
  repeat (first | with_reducible refine store_in_new ?_ ?_ | with_reducible refine wpAny_loadPart_at hx ?_ | with_reducible refine lc.at ?_ | wp_step)
  · exact ⟨_, #[], _, (Heap.get?_update_ne _ _ _ _ xs.symm).trans (Heap.get?_push_at rfl rfl), rfl, fun e he => absurd he (by simp), fun _ => rfl⟩
  · intro h' tk' hn hs
    have hx1 : (hp.push { cls := .type "dict", data := .dict #[] }).get? x = some { cls := .ref C, data := .fields fv } := Heap.get?_push_of_some _ hx
    exact hq h' tk' hp.objs.size (fun b o hb ho => (hs.2 b (Nat.ne_of_lt (Heap.lt_size ho))).trans ((Heap.get?_update_ne _ _ _ _ hb).trans (Heap.get?_push_of_some _ ho))) (Nat.le_refl _) xs.symm ((hs.2 x xs).trans (Heap.get?_update_self _ hx1 rfl)) hn
theorem es_old {K : W.Frag} {name : Str} {tk : Tok} {v : Value} {x C dx : Addr} {fv : Array Value} {cd : ClassData} {m0 : Str → Option Value} {nl : List Str} (X : K.In hp) (hx : hp.get? x = some { cls := .ref C, dict := some dx, data := .fields fv }) (hns : hp.Ns1 dx m0) (hw : Within m0 nl) (hz : nl.length ≤ 1000)
    (hcd : W.clsIn K C = some cd) (hm : MroOk cd.mro) (hh : cd.hasDict = true) (ha : W.findIn K (.ref C) name = some none) (hq : ∀ h' tk', (∀ b o, b ≠ dx → hp.get? b = some o → h'.get? b = some o) → h'.Ns1 dx (fun y => if y = name then some v else m0 y) → R (.ok (.ret .none)) ⟨h', g, d, tk', os⟩) :
    codeAny (model prog w) A (.call (.builtin "object.__setattr__") ⟨[.ref x, .str name tk, v], []⟩) R ⟨hp, g, d, t, os⟩ := by
  obtain ⟨oD, _, _, hoD, _, _⟩ := hns.count hw
  have J : W.InstAt hp x { cls := .ref C, dict := some dx, data := .fields fv } C (some oD) := ⟨hx, rfl, rfl, hoD⟩
  have S := F.store_object
  have lc : W.Looks (model prog w) hp (classData C) cd := W.looks_clsIn X hcd
  have lm : W.Looks (model prog w) hp (mroOf (.ref C)) cd.mro := lc.andThen .now
  have lt : W.Looks (model prog w) hp (storeTaker? none) none := .now
  have lo : W.Looks (model prog w) hp (isInstance (.ref x) (.type "object")) true := J.type.andThen (W.looks_mroIn X (by rw [W.mroIn, hcd, Option.bind_some, if_neg (by rw [hm.ne]; decide), hm.ob]))
  refine codeAny_call_builtin S.slot.plain S.entry (@W.check_slot (model prog w) _ _ ⟨hp, g, d, t, os⟩ "object.__setattr__" "object" "__setattr__" (.ref x) [.str name tk, v] [] _ S.kind S.split lo (S.args _ _ _) ?_)
  rw [W.osa_eq, refuse_eq]
  refine wpAny_bind (wpAny_bind (J.type.at (wpAny_bind (lm.at ?_))))
  rw [hm.pass]
  refine wpAny_pure (wpAny_bind (J.type.at (wpAny_bind ((W.looks_findIn X ha).at (wpAny_bind (lt.at ?_))))))
  show wpAny _ _ (storeInOwnDict (.ref x) (.ref C) (.str name tk) name v false) _ _ _
  obtain ⟨_, _, _, _, _, hd, _, _, _, _, _⟩ := cd
  cases hh
  unfold storeInOwnDict ownDictForStores
  repeat (first | with_reducible refine PySem.OEX.store_in_old hns hw hz ?_ | with_reducible refine wpAny_loadPart_at hx ?_ | with_reducible refine lc.at ?_ | wp_step)
  intro h' tk' hn hs
  exact hq h' tk' (fun b o hb ho => (hs.2 b hb).trans ho) hn
end
section
open PySem.W PySem.Calls PySem.HandSPX
variable {M : Model} {A : Around} {E : Value → Shared → Prop} {h : Heap} {g : Array GenState} {d : Drawn} {t : Nat} {os : OsState} {nm q : Str} {C N : Addr} {bs bm bmB : List Value} {hdct : Bool} {sn : List Str} {sub : List Value} {ab : Bool} {col : Option Bool} {dd : Option Addr} {k0 k1 k2 k3 k5 : Option Value} {B newId initId : String}
/-- the maker of an own error class lets any arguments pass, by place and by name -/
theorem mk_check (F : ExcBaseFacts B newId initId bmB) (hT : ∀ X : String, bm.contains (.type X) = bmB.contains (.type X)) {rest : List Value} {kw : List (Str × Value)} {Q : Unit → Shared → Prop}
    (hC : h.get? C = some (excClassObj nm q C N bs bm hdct sn sub ab col dd k0 k1 k2 k3 k5 newId)) (hq : Q () ⟨h, g, d, t, os⟩) : wpAny M A (checkBuiltinCall newId ⟨.ref C :: rest, kw⟩) Q E ⟨h, g, d, t, os⟩ := by
  have hc : (Value.ref C :: bm).contains (.type B) = true := by rw [List.contains_cons, hT, F.hasB, Bool.or_true]
  have hs := F.noStar
  simp only [checkBuiltinCall, F.newKind, F.newSplit, F.newRow]
  repeat (first | refine wpAny_loadPart_at hC ?_ | (refine wpAny_isSubtype_exc hC ?_; rw [hc]) | refine wpAny_staticBase_exc hC ?_ | refine wpAny_madeBy_exc hC ?_ | simp only [bne_self_eq_false, Bool.false_eq_true, if_false] | wp_step)
  exact hq
end
section
open PySem.W PySem.Calls PySem.HandSPX
variable {prog : Program} {w : World} {A : Around} {E : Value → Shared → Prop} {R : Result → Shared → Prop} {h : Heap} {g : Array GenState} {d : Drawn} {t : Nat} {os : OsState} {nm q : Str} {C N : Addr} {bs bm bmB : List Value} {hdct : Bool} {sn : List Str} {sub : List Value} {ab : Bool} {col : Option Bool} {dd : Option Addr} {k0 k1 k2 k3 k5 : Option Value} {B newId initId : String}
theorem mk_new (F : ExcBaseFacts B newId initId bmB) (hT : ∀ X : String, bm.contains (.type X) = bmB.contains (.type X)) {rest : List Value} {kw : List (Str × Value)} (hC : h.get? C = some (excClassObj nm q C N bs bm hdct sn sub ab col dd k0 k1 k2 k3 k5 newId))
    (hq : R (.ok (.ret (.ref (h.objs.size + 1)))) ⟨(h.push (PySem.W.kdv_tup rest)).push (excO C h.objs.size), g, d, t, os⟩) (hr : rest.length ≤ sizeLine) : codeAny (model prog w) A (.builtin newId ⟨.ref C :: rest, kw⟩) R ⟨h, g, d, t, os⟩ := by
  have he := F.ends
  have c1 : (Value.ref C :: bm).contains (.type B) = true := by rw [List.contains_cons, hT, F.hasB, Bool.or_true]
  have c2 : (Value.ref C :: bm).contains (.type "AttributeError") = false := by rw [List.contains_cons, hT, F.noAttr]; rfl
  have c3 : (Value.ref C :: bm).contains (.type "NameError") = false := by rw [List.contains_cons, hT, F.noName]; rfl
  refine codeAny_builtinAt F.entry ?_
  unfold Builtin.«BaseException.__new__»
  refine PySem.wpAt_bind ?_
  show PySem.wpAt _ _ _ (stack >>= _) _ _ _
  refine PySem.wpAt_bind (PySem.wpAt_stack fun p below => PySem.wpAt_of_wpAny ?_)
  wp_walk
  refine PySem.wpAt_of_wpAny ?_
  rw [F.owner]
  repeat (first | with_reducible refine wpAny_madeHere_exc F.canon hC ?_ | with_reducible refine wpAny_loadPart_at hC ?_ | (with_reducible refine wpAny_isSubtype_exc hC ?_; first | rw [c1] | rw [c2] | rw [c3]) | wp_step)
  show R _ _
  rw [Heap.size_push]
  exact hq
end
section
open PySem.W PySem.Calls PySem.HandSPX
variable {prog : Program} {w : World} {A : Around} {E : Value → Shared → Prop} {R : Result → Shared → Prop} {h : Heap} {g : Array GenState} {d : Drawn} {t : Nat} {os : OsState} {nm q : Str} {C N : Addr} {bs bm bmB : List Value} {hdct : Bool} {sn : List Str} {sub : List Value} {ab : Bool} {col : Option Bool} {dd : Option Addr} {k0 k1 k2 k3 k5 : Option Value} {B newId initId : String}
theorem mk_type (F : ExcBaseFacts B newId initId bmB) (hT : ∀ X : String, bm.contains (.type X) = bmB.contains (.type X)) {rest : List Value} {kw : List (Str × Value)} {fI : Addr} {Q : Fin → Shared → Prop} (hC : h.get? C = some (excClassObj nm q C N bs bm hdct sn sub ab col dd k0 k1 k2 k3 k5 newId))
    (hi : W.Looks (model prog w) h (typeLookup (.ref C) "__init__") (some (.ref fI))) (hb : ∀ self, W.Looks (model prog w) h (bindSpecial (.ref fI) self) (.ref fI, [self])) (hr : rest.length ≤ sizeLine)
    (hq : codeAny (model prog w) A (.call (.ref fI) ⟨.ref (h.objs.size + 1) :: rest, kw⟩) (fun r s' => match r with | .ok (.ret v) => v = .none ∧ Q (.done (.ret (.ref (h.objs.size + 1)))) s' | .ok _ => False | .error e => E e s') ⟨(h.push (W.kdv_tup rest)).push (excO C h.objs.size), g, d, t, os⟩) :
    wpAny (model prog w) A (Builtin.«type.__call__» ⟨.ref C :: rest, kw⟩) Q E ⟨h, g, d, t, os⟩ := by
  repeat (first | with_reducible refine wpAny_loadPart_at hC ?_ | with_reducible refine wpAny_madeBy_exc hC ?_ | wp_step)
  refine codeAny_call_builtin_code (Code.quiet_builtin _ F.quiet) (mk_check F hT hC (mk_new F hT hC ?_ hr))
  show wpAny _ _ _ _ _ _
  have kp : ∀ b o, h.get? b = some o → ((h.push (W.kdv_tup rest)).push (excO C h.objs.size)).get? b = some o := fun b o e => Heap.get?_push_of_some _ (Heap.get?_push_of_some _ e)
  have g1 : ((h.push (W.kdv_tup rest)).push (excO C h.objs.size)).get? (h.objs.size + 1) = some (excO C h.objs.size) := by heap_get
  have g2 := kp _ _ hC
  have cc : (Value.ref C :: bm).contains (.ref C) = true := by simp
  have li := hi.keeps kp
  have lb := (hb (.ref (h.objs.size + 1))).keeps kp
  unfold isInstance
  repeat (first | with_reducible refine wpAny_loadPart_at g1 ?_ | (with_reducible refine wpAny_isSubtype_exc g2 ?_; rw [cc]) | wp_step)
  show wpAny _ _ (typeLookup (.ref C) _) _ _ _
  refine li.at (wpAny_holding (wpAny_bind (lb.at (wpAny_bind (wpAny_call (codeAny_mono hq fun r s' z => ?_))))))
  rcases r with e | (v | _ | _ | _)
  all_goals first | exact z | exact z.elim | skip
  obtain ⟨rfl, y⟩ := z
  first
    | exact wpAny_pure (wpAny_pure y)
    | (wp_walk; exact y)
theorem mk_call (F : ExcBaseFacts B newId initId bmB) (hT : ∀ X : String, bm.contains (.type X) = bmB.contains (.type X)) {rest : List Value} {kw : List (Str × Value)} {fI : Addr} (hC : h.get? C = some (excClassObj nm q C N bs bm hdct sn sub ab col dd k0 k1 k2 k3 k5 newId))
    (hi : W.Looks (model prog w) h (typeLookup (.ref C) "__init__") (some (.ref fI))) (hb : ∀ self, W.Looks (model prog w) h (bindSpecial (.ref fI) self) (.ref fI, [self])) (hr : rest.length ≤ sizeLine)
    (hq : codeAny (model prog w) (A.under (.builtin "type.__call__" ⟨.ref C :: rest, kw⟩)) (.call (.ref fI) ⟨.ref (h.objs.size + 1) :: rest, kw⟩) (W.InitBack (h.objs.size + 1) R) ⟨(h.push (W.kdv_tup rest)).push (excO C h.objs.size), g, d, t, os⟩) :
    codeAny (model prog w) A (.call (.ref C) ⟨rest, kw⟩) R ⟨h, g, d, t, os⟩ := by
  have f1 := tc_lookup
  have f2 := tc_bind (.ref C)
  have ty : (⟨h, g, d, t, os⟩ : Shared).TypeIs (.ref C) "type" := ⟨_, hC, rfl⟩
  refine codeAny_of_tree ?_
  show wpAny _ _ (callAny (.ref C) _) _ _ _
  repeat (any_goals (first | assumption | with_reducible refine wpAny_loadPart_at hC ?_ | wp_step))
  refine ⟨rfl, codeAny_call_builtin_at (Code.quiet_builtin _ (by decide +kernel)) entry_typeCall (wpAny_check_type_call_sub hC (mk_type F hT hC hi hb hr (codeAny_mono hq fun r s' z => ?_)))⟩
  rcases r with e | (v | _ | _ | _) <;> exact z
end
/-! ### the rules -/
/-- what the written part says of an own error class -/
structure EC (K : PySem.W.Frag) (C : Addr) : Prop where
  cls : ∃ nm q N bs bm sn sub ab col dd k0 k1 k2 k3 k5 B newId initId bmB, K.lookup C = some (excClassObj nm q C N bs bm true sn sub ab col dd k0 k1 k2 k3 k5 newId) ∧ ExcBaseFacts B newId initId bmB ∧ (∀ X : String, bm.contains (.type X) = bmB.contains (.type X)) ∧ MroOk (.ref C :: bm)
  sa : PySem.W.findIn K (.ref C) "__setattr__" = some (some (.builtin "object.__setattr__"))
  ga : PySem.W.findIn K (.ref C) "__getattribute__" = some (some (.builtin "BaseException.__getattribute__"))
  gg : PySem.W.findIn K (.ref C) "__getattr__" = some none
  ex : PySem.W.subIn K (.ref C) (.type "BaseException") = some true
  hd : PySem.W.hasDictIn K C = true
  kC : PySem.W.keepIn K (.ref C) = true
  ca : PySem.W.findIn K (.ref C) "__class__" = some (some (.builtin "object.__class__"))
  cg : PySem.W.specialIn K (.builtin "object.__class__") "__get__" = some (some (.builtin "getset_descriptor.__get__"))
  ct : PySem.W.takesIn K (.builtin "object.__class__") = some true
  mo : PySem.W.mroIn K C (.type "object") = some true
section
variable {X : Cx} {pins : List (Addr × Obj)} {σ : L2.St} {H : Hp} {s : Shared} {a C dx : Addr} {f : Str} {y : V} {u : Value} {fs : List (Str × V)} {Q : Unit → Shared → Prop} {E : Value → Shared → Prop} {A : Around}
theorem st_new (T : EC X.K C) (I : Inv X pins σ H s) (e : H a = some (exo a C none)) (hno : PySem.W.findIn X.K (.ref C) f = some none) (ry : RelV y u)
    (h : ∀ dx s', H dx = none → dx ≠ a → Inv X pins σ (upd (upd H dx (exd dx [(f, y)])) a (exo a C (some dx))) s' → Q () s') : wpAny (model X.prog X.w) A (setAttr (.ref a) f u) Q E s := by
  obtain ⟨nm, q, N, bs, bm, sn, sub, ab, col, dd, k0, k1, k2, k3, k5, B, newId, initId, bmB, hC, _, _, hM⟩ := T.cls
  have hcl : ∃ cd : ClassData, PySem.W.clsIn X.K C = some cd ∧ cd.mro = .ref C :: bm ∧ cd.hasDict = true := ⟨{ name := nm, bases := bs, mro := .ref C :: bm, ns := N, qualname := q, hasDict := true, slotNames := sn, subclasses := sub, abstract := ab, collection := col, hasDel := false }, by unfold PySem.W.clsIn; rw [hC] <;> rfl, rfl, rfl⟩
  obtain ⟨cd, c1, c2, c3⟩ := hcl
  obtain ⟨t1, ho⟩ := exo_at I.hok e
  obtain ⟨hp, g, d, t, os⟩ := s
  refine PySem.W.set_plain I.kIn (od := none) ⟨ho, rfl, rfl, trivial⟩ T.sa (es_new I.kIn ho c1 (by rw [c2]; exact hM) c3 hno (fun h' tk' dx k dn dne hx hn => ?_))
  have hnd : H dx = none := I.hok.fresh dn
  have nd : ∀ {b : Addr} {o : Obj}, hp.get? b = some o → b ≠ dx := fun q => Nat.ne_of_lt (Nat.lt_of_lt_of_le (Heap.lt_size q) dn)
  have na : ∀ {b : Addr}, H b = none → b ≠ a := fun n z => by rw [z, e] at n; cases n
  have two : ∀ {b : Addr} {o : HO}, b ≠ a → H b = some o → upd (upd H dx (exd dx [(f, y)])) a (exo a C (some dx)) b = some o := fun ne q => by rw [upd_ne ne, upd_ne (ne_of_none q hnd)]; exact q
  have U : Un X.fs [] H (upd (upd H dx (exd dx [(f, y)])) a (exo a C (some dx))) hp h' := {
    keep := fun b o q n _ _ => k b o (na n) q
    slot := fun b o q n _ _ => ⟨o.slots, k b o (na n) q⟩
    free := fun b o q n _ => by rw [upd_ne (na n), upd_ne (nd q)]; exact n
    there := fun b o q _ => by
      by_cases hb : b = a
      · subst hb
        exact ⟨_, hx⟩
      · exact ⟨o, k b o hb q⟩
    tups := fun b xs q => two (at_ne e q exo_tup) q
    frzs := fun b o v q => two (at_ne e q exo_frz) q
    tbls := fun b ps q => ⟨#[], by rw [two (at_ne e q exo_tbl) q]; simp⟩ }
  refine h dx _ hnd dne (I.un (t' := tk') U fun b o q => ?_)
  by_cases hb : b = a
  · subst hb
    rw [upd_same] at q
    cases q
    exact exo_ok hx
  · rw [upd_ne hb] at q
    by_cases hd : b = dx
    · subst hd
      rw [upd_same] at q
      cases q
      exact exd_ok hn (relO_put (fs := []) ry fun g => True.intro)
    · rw [upd_ne hd] at q
      refine (I.hok b o q).stay (fun c v hc z => k c v (fun w => ?_) z) (fun c hc => two (at_ne e hc exo_own) hc) fun c xs hc => two (at_ne e hc exo_tup) hc
      rcases hc with hc | hc
      · exact hb (hc.symm.trans w)
      · exact at_ne e hc exo_own w
theorem st_old (T : EC X.K C) (I : Inv X pins σ H s) (e : H a = some (exo a C (some dx))) (ed : H dx = some (exd dx fs)) (hl : fs.length ≤ 900) (hno : PySem.W.findIn X.K (.ref C) f = some none) (ry : RelV y u)
    (h : ∀ s', Inv X pins σ (upd H dx (exd dx ((f, y) :: fs))) s' → Q () s') : wpAny (model X.prog X.w) A (setAttr (.ref a) f u) Q E s := by
  obtain ⟨nm, q, N, bs, bm, sn, sub, ab, col, dd, k0, k1, k2, k3, k5, B, newId, initId, bmB, hC, _, _, hM⟩ := T.cls
  have hcl : ∃ cd : ClassData, PySem.W.clsIn X.K C = some cd ∧ cd.mro = .ref C :: bm ∧ cd.hasDict = true := ⟨{ name := nm, bases := bs, mro := .ref C :: bm, ns := N, qualname := q, hasDict := true, slotNames := sn, subclasses := sub, abstract := ab, collection := col, hasDel := false }, by unfold PySem.W.clsIn; rw [hC] <;> rfl, rfl, rfl⟩
  obtain ⟨cd, c1, c2, c3⟩ := hcl
  obtain ⟨t1, ho⟩ := exo_at I.hok e
  obtain ⟨mA, hns, rel⟩ := exd_at I.hok ed
  have hw := within_of rel
  obtain ⟨hp, g, d, t, os⟩ := s
  obtain ⟨oD, _, _, hoD, _, _⟩ := hns.count hw
  refine PySem.W.set_plain I.kIn (od := some oD) ⟨ho, rfl, rfl, hoD⟩ T.sa (es_old I.kIn ho hns hw (by rw [List.length_map]; omega) c1 (by rw [c2]; exact hM) c3 hno (fun h' tk' k hn => ?_))
  obtain ⟨o, es, ep, e', r'⟩ := hn
  exact h _ (I.write (t' := tk') (x := dx) (e := dx) (o := exd dx ((f, y) :: fs)) (by rw [ed]; exact True.intro) (.inl rfl) k ⟨o, e'⟩ (exd_ok ⟨o, es, ep, e', r'⟩ (relO_put ry rel)))
end
/-- self.f = e, self an own error -/
def tEst (K : PySem.W.Frag) (f : Str) (to te : TE) : TS := fun D σ H => te σ H fun y H1 => to σ H1 fun x H2 => ∃ a C : Addr, x = .ref a ∧ EC K C ∧ PySem.W.findIn K (.ref C) f = some none ∧
  ((H2 a = some (exo a C none) ∧ ∀ dx, H2 dx = none → dx ≠ a → D.nx σ (upd (upd H2 dx (exd dx [(f, y)])) a (exo a C (some dx)))) ∨
    ∃ (dx : Addr) (fs : List (Str × V)), H2 a = some (exo a C (some dx)) ∧ H2 dx = some (exd dx fs) ∧ fs.length ≤ 900 ∧ D.nx σ (upd H2 dx (exd dx ((f, y) :: fs))))
section
variable {X : Cx} {o e : Expr} {es : List Expr} {to te : TE} {ta : TA} {f : Str} {p p' p1 p2 pos : Pos}
theorem ps_est (ho : PE X o to) (he : PE X e te) (hs : swapsWith e (some (.Attribute o f p')) pos.line X.env = pure false := by rfl) : PS X (.Assign [.Attribute o f p'] e pos) (tEst X.K f to te) := by
  refine ⟨fun pins s σ H D I h => plainObj_wpAny_Assign_Attribute (thn (he.run pins s σ H _ I h) fun v s1 ⟨y, H1, I1, r1, q1⟩ => thn (ho.run pins s1 σ H1 _ I1 q1) fun u s2 ⟨x, H2, I2, r2, a, C, ex, T, hno, q⟩ => ?_) hs⟩
  subst ex
  obtain rfl : u = Value.ref a := r2
  rcases q with ⟨ea, q⟩ | ⟨dx, fs, ea, ed, hl, q⟩
  · exact st_new T I2 ea hno r1 fun dx s' n ne J => ⟨σ, _, J, q dx n ne⟩
  · exact st_old T I2 ea ed hl hno r1 fun s' J => ⟨σ, _, J, q⟩
/-- C(..) by place and by name: n values, then m by name -/
def tMkE (C : Addr) (n m : Nat) (sp : Sp) (gV : List V → List V → List V) (ta tk : TA) : TE := fun σ H Q => ta σ H fun vs H1 => tk σ H1 fun zs H2 => vs.length = n ∧ zs.length = m ∧ n ≤ 1000 ∧
  ∀ a, H2 a = none → sp (gV (.ref a :: vs) zs) (upd H2 a (exo a C none)) (fun v H3 => v = .non ∧ Q (.ref a) H3) E0
theorem run_mkE {CX : CXT} {k n : Nat} {fI : Addr} {fd : FuncData} {ps ks : List Str} {sp : Sp} {g : List Value → List Value → List Value} {gV : List V → List V → List V} {pins : List (Addr × Obj)} {σ : L2.St} {H : Hp} {s : Shared} {Q : VK} {us ws : List Value} {vs zs : List V} {C : Addr}
    (T : EC X.K C) (iC : PySem.W.findIn X.K (.ref C) "__init__" = some (some (.ref fI))) (tI : PySem.W.typeIn X.K (.ref fI) = some (.type "function")) (F1 : FnOk X.prog X.w X.K X.mg X.base CX k fI fd ps sp) (hr : Room (k + 1) X.A) (hb : KBn X.K fd ps (n + 1) ks g gV) (hx : Passes CX X E0)
    (I : Inv X pins σ H s) (r : Vals vs us) (rz : Vals zs ws) (l1 : vs.length = n) (l2 : zs.length = ks.length) (hn : n ≤ 1000)
    (h : ∀ a, H a = none → sp (gV (.ref a :: vs) zs) (upd H a (exo a C none)) (fun v H3 => v = .non ∧ Q (.ref a) H3) E0) :
    wpAny (model X.prog X.w) X.A (call (.ref C) us (ks.zip ws)) (EP X pins σ Q) X.xe s := by
  obtain ⟨nm, q, N, bs, bm, sn, sub, ab, col, dd, k0, k1, k2, k3, k5, B, newId, initId, bmB, hC, FB, hT, hM⟩ := T.cls
  obtain ⟨hp, g0, dr, tk, os⟩ := s
  have sz : hp.objs.size ≤ hp.objs.size + 1 := Nat.le_succ _
  have hq := h (hp.objs.size + 1) (I.hok.fresh sz)
  have gt : ((hp.push (PySem.W.kdv_tup us)).push (PySem.HandSPX.excO C hp.objs.size)).get? (hp.objs.size + 1) = some (PySem.HandSPX.excO C hp.objs.size) := by heap_get
  have I2 : Inv X pins σ (upd H (hp.objs.size + 1) (exo (hp.objs.size + 1) C none)) ⟨(hp.push (PySem.W.kdv_tup us)).push (PySem.HandSPX.excO C hp.objs.size), g0, dr, tk, os⟩ :=
    I.laid (t' := tk) (fun b o e => Heap.get?_push_of_some _ (Heap.get?_push_of_some _ e)) sz (exo_ok gt)
  have r1 : Vals (V.ref (hp.objs.size + 1) :: vs) (Value.ref (hp.objs.size + 1) :: us) := .cons rfl r
  have e1 : (Value.ref (hp.objs.size + 1) :: us).length = n + 1 := r1.length.symm.trans (congrArg Nat.succ l1)
  have e2 : ws.length = ks.length := rz.length.symm.trans l2
  have hus : us.length ≤ sizeLine := by
    rw [← r.length, l1, sizeLine_eq]
    omega
  refine wpAny_call (mk_call FB hT (I.kIn _ _ hC) (PySem.W.looks_findIn I.kIn iC) (fun self => PySem.W.bind_fn I.kIn self tI) hus
    (codeAny_mono (F1.run _ X.stack _ _ ⟨Value.ref (hp.objs.size + 1) :: us, ks.zip ws⟩ (g (Value.ref (hp.objs.size + 1) :: us) ws) _ _ E0 (hr.make C us (ks.zip ws)) (I2.env0.make C us (ks.zip ws)) (hb.to _ (Value.ref (hp.objs.size + 1) :: us) ws I2.kIn e1 e2) (hb.rel r1 rz) hq) fun r s' hq' => ?_))
  cases r with
  | error er => exact hx pins σ _ _ er s' I2 hq'
  | ok fl =>
    cases fl with
    | ret u =>
      obtain ⟨v, H', I3, rv, ev, q3⟩ := I2.after hq'
      subst ev
      refine ⟨rv, ⟨V.ref (hp.objs.size + 1), H', ?_, rfl, q3⟩⟩
      exact I3
    | next => exact False.elim hq'
    | brk => exact False.elim hq'
    | cont => exact False.elim hq'
end
/-! ### an error made, read, asked for its class -/
def ErrF (H : Hp) (a C : Addr) (fs : List (Str × V)) : Prop := ∃ dx, H a = some (exo a C (some dx)) ∧ H dx = some (exd dx fs)
/-- an error of the class at C, with or without fields -/
def ErrA (H : Hp) (a C : Addr) : Prop := (∃ fs, ErrF H a C fs) ∨ H a = some (ExO (.ref C) a)
theorem ErrF.same {H H' : Hp} {a C : Addr} {fs : List (Str × V)} (s : Same H H') (h : ErrF H a C fs) : ErrF H' a C fs := by
  obtain ⟨dx, h1, h2⟩ := h
  exact ⟨dx, s _ _ h1, s _ _ h2⟩
theorem ErrA.same {H H' : Hp} {a C : Addr} (s : Same H H') (h : ErrA H a C) : ErrA H' a C := by
  rcases h with ⟨fs, h⟩ | h
  · exact .inl ⟨fs, h.same s⟩
  · exact .inr (s _ _ h)
def ExtB (a : Addr) (H H' : Hp) : Prop := ∀ b o, b ≠ a → H b = some o → H' b = some o
/-- __init__ of a class at C: m values are kept as the fields fo tells -/
def spIn (C : Addr) (fo : List V → List (Str × V)) (m : Nat) : Sp := fun vs H Q _ => ∃ a ys, vs = .ref a :: ys ∧ ys.length = m ∧ H a = some (exo a C none) ∧ ∀ H', ErrF H' a C (fo ys) → ExtB a H H' → Q .non H'
def tErr (C : Addr) (fo : List V → List (Str × V)) (m : Nat) (ta : TA) : TE := fun σ H Q => ta σ H fun vs H1 => vs.length = m ∧ ∀ a H', Same H1 H' → H1 a = none → ErrF H' a C (fo vs) → Q (.ref a) H'
def tErrK (C : Addr) (fo : List V → List (Str × V)) (m : Nat) (pm : {α : Type} → List α → List α) (tk : TA) : TE := fun σ H Q => tk σ H fun zs H1 => zs.length = m ∧ ∀ a H', Same H1 H' → H1 a = none → ErrF H' a C (fo (pm zs)) → Q (.ref a) H'
theorem ext_same {H H' : Hp} {a : Addr} {o : HO} (n : H a = none) (e : ExtB a (upd H a o) H') : Same H H' := fun b u q => e b u (ne_of_none q n) (by rw [upd_ne (ne_of_none q n)]; exact q)
section
variable {X : Cx} {e : Expr} {es : List Expr} {ta tk : TA} {f x : Str} {p pos : Pos} {C fI : Addr} {k m : Nat} {fd : FuncData} {ps : List Str} {fo : List V → List (Str × V)} {kws : List Keyword}
theorem pe_err (T : EC X.K C) (iC : PySem.W.findIn X.K (.ref C) "__init__" = some (some (.ref fI))) (tI : PySem.W.typeIn X.K (.ref fI) = some (.type "function")) (F1 : FnOk X.prog X.w X.K X.mg X.base CX0 k fI fd ps (spIn C fo m)) (hr : Room (k + 1) X.A) (hb : Binds X.K fd ps []) (hp : ps.length = m + 1) (h1 : m ≤ 1000)
    (hg : Gl X x) (hm : X.mg x = some (.ref C)) (ha : PA X (e :: es) ta) (hdb : (x == ("__debug__" : Str)) = false := by decide) (he : starEach (e :: es) X.env = (false, eval e X.env) :: starEach es X.env := by rfl) (hpl : (backTo pos (starEach es X.env)).any (·.1) = false := by rfl) :
    PE X (.Call (.Name x p) (e :: es) [] pos) (tErr C fo m ta) := by
  refine ⟨fun pins s σ H Q I h => wpAny_Call_Name_kw (ld_glob I hg hm ?_ hdb)⟩
  refine PySem.W.callWith_K (h₀ := X.base) I.ok.mod.kin T.kC (thn (ha.run pos pins s σ H _ I h) fun us s1 ⟨vs, H1, I1, r1, hz, q1⟩ => ⟨I1.kIn, ?_⟩) he hpl
  have kb : KBn X.K fd ps (m + 1) [] (fun us _ => us) (fun vs _ => vs) := ⟨fun s us ws X l1 _ => by
    have z := hb s us X (by rw [List.append_nil, l1, hp])
    rw [List.append_nil] at z
    exact z, fun r _ => r⟩
  exact run_mkE (ks := []) (ws := []) (zs := []) T iC tI F1 hr kb pass0 I1 r1 .nil hz rfl h1 fun a na => ⟨a, vs, rfl, hz, upd_same, fun H' er ex => ⟨rfl, q1 a H' (ext_same na ex) na er⟩⟩
theorem pe_errK {ks : List Str} {pm : {α : Type} → List α → List α} (T : EC X.K C) (iC : PySem.W.findIn X.K (.ref C) "__init__" = some (some (.ref fI))) (tI : PySem.W.typeIn X.K (.ref fI) = some (.type "function")) (F1 : FnOk X.prog X.w X.K X.mg X.base CX0 k fI fd ps (spIn C fo m)) (hr : Room (k + 1) X.A)
    (hb : KBn X.K fd ps 1 ks (fun us ws => us ++ pm ws) (fun vs zs => vs ++ pm zs)) (hl : ∀ zs : List V, zs.length = m → (pm zs).length = m) (hks : ks.length = m)
    (hg : Gl X x) (hm : X.mg x = some (.ref C)) (hkw : PK X kws tk) (hall : (backToKw pos (keywordEach kws X.env)).all (·.1.isSome) = true := by rfl) (hkn : (backToKw pos (keywordEach kws X.env)).filterMap (·.1) = ks := by rfl) (hdb : (x == ("__debug__" : Str)) = false := by decide)
    (hpl : ((backTo pos (starEach [] X.env)).any (·.1) || (backToKw pos (keywordEach kws X.env)).any (·.1.isNone)) = false := by rfl) :
    PE X (.Call (.Name x p) [] kws pos) (tErrK C fo m pm tk) := by
  refine ⟨fun pins s σ H Q I h => wpAny_Call_Name_kw (ld_glob I hg hm ?_ hdb)⟩
  refine PySem.W.callWith_KW0 (h₀ := X.base) I.ok.mod.kin T.kC hall (thn (hkw.run pos pins s σ H _ I h) fun ws s2 ⟨zs, H2, I2, rz, hz, q2⟩ => ⟨I2.kIn, ?_⟩) hpl
  rw [hkn]
  exact run_mkE (n := 0) (us := []) (vs := []) T iC tI F1 hr hb pass0 I2 .nil rz rfl (by rw [hz, hks]) (Nat.zero_le _) fun a na => ⟨a, pm zs, rfl, hl zs hz, upd_same, fun H' er ex => ⟨rfl, q2 a H' (ext_same na ex) na er⟩⟩
/-- C(): a class without an own __init__ -/
def tErr0 (C : Addr) : TE := fun _ H Q => ∀ a, H a = none → Q (.ref a) (upd H a (ExO (.ref C) a))
theorem pe_err0 {bmB : List Value} {B newId initId : String} (F : ExcBaseFacts B newId initId bmB) (q : PySem.W.excIn X.K C bmB newId = true) (gC : X.mg x = some (.ref C)) (kC : PySem.W.keepIn X.K (.ref C) = true) (hg : Gl X x) (hdb : (x == ("__debug__" : Str)) = false := by decide) :
    PE X (.Call (.Name x p) [] [] pos) (tErr0 C) := by
  refine ⟨fun pins s σ H Q I h => wpAny_Call_Name_kw (ld_glob I hg gC ?_ hdb)⟩
  refine PySem.W.callWith_K0 I.kIn kC ?_
  show wpAny _ _ (call (.ref C) []) _ _ _
  obtain ⟨bm, N, nm, qn, bs, hdct, sn, sub, ab, col, dd, k0, k1, k2, k3, k5, mN, hC, hN, hni, T⟩ := exc_obj I.kIn q
  refine wpAny_call_exc_subT F T hC hN hni (fun h' a hm => ?_) (Nat.zero_le _)
  have hn : H a = none := I.hok.gone hm.new
  obtain ⟨t, ht, _, _⟩ := hm.there
  exact ⟨.ref a, upd H a (ExO (.ref C) a), I.laidN hm.keeps hm.new hn (exO_ok ht ⟨rfl, rfl⟩ rfl rfl rfl (show 4 < 6 by decide)), rfl, h a hn⟩
/-- e.f -/
def tEf (K : PySem.W.Frag) (f : Str) (te : TE) : TE := fun σ H Q => te σ H fun x H1 => ∃ a C fs v, x = .ref a ∧ EC K C ∧ PySem.W.findIn K (.ref C) f = some none ∧ ErrF H1 a C fs ∧ fs.lookup f = some v ∧ Q v H1
theorem pe_ef {te : TE} (he : PE X e te) (hb : attributeBase e f X.env (eval e X.env) = eval e X.env := by rfl) : PE X (.Attribute e f pos) (tEf X.K f te) := by
  refine ⟨fun pins s σ H Q I h => attr_of hb (thn (he.run pins s σ H _ I h) fun u s1 hh => ?_)⟩
  obtain ⟨x, H1, I1, rx, a, C, fs, v, ex, T, hno, ⟨dx, ea, ed⟩, l, q⟩ := hh
  subst ex
  obtain rfl : u = Value.ref a := rx
  obtain ⟨t1, ho⟩ := exo_at I1.hok ea
  obtain ⟨mA, hns, hr⟩ := exd_at I1.hok ed
  obtain ⟨od, hd, hl⟩ := lookIn_ns hns
  obtain ⟨u, hu, ru⟩ := RelO.some_of (v := v) (o := mA f) (by rw [← l]; exact hr f)
  exact HandSPX.exc_get (od := some od) I1.kIn ⟨ho, rfl, rfl, hd⟩ T.ga T.gg T.ex (PySem.W.findObj_own T.hd hno rfl (by rw [hl, hu])) (handed_of ru) ⟨v, H1, I1.tok _, ru, q⟩
end
/-! ### isinstance of an error -/
section
open PySem.W PySem.Calls
variable {prog : Program} {w : World} {A : Around} {E : Value → Shared → Prop} {s : Shared} {K : Frag} {x D : Addr} {ox : Obj} {od : Option Obj}
theorem find_cls (T : EC K D) : findObj K D od "__class__" = some (.bind (.builtin "getset_descriptor.__get__") (.builtin "object.__class__")) := by
  obtain ⟨cd, hc, _⟩ := any_some T.hd
  have h1 := T.ca
  have h2 := T.cg
  have h3 := T.ct
  unfold findObj
  rw [hc, Option.bind_some, h1, Option.bind_some]
  simp [h2, h3]
theorem ask_cls {Q : Option Value → Shared → Prop} (T : EC K D) (X : K.In s.heap) (I : InstAt s.heap x ox D od) (h : Q (some (.ref D)) { s with toks := s.toks + 1 }) : wpAny (model prog w) A (getAttr? (.ref x) "__class__") Q E s := by
  obtain ⟨hp, g, d, t, os⟩ := s
  have lt := I.type (M := model prog w)
  have la := looks_findIn (M := model prog w) X T.ga
  have lb := looks_findIn (M := model prog w) X T.gg
  have lf := looks_find (M := model prog w) X I (find_cls T)
  have sub : Looks (model prog w) hp (isInstance (.ref x) (.type "BaseException")) true := lt.andThen (looks_subIn X T.ex)
  have z0 : (false && onTheHeap (Value.builtin "BaseException.__getattribute__")) = false := rfl
  have z1 : (onTheHeap (Value.ref D) && Value.builtin "BaseException.__getattribute__" == Value.builtin "object.__getattribute__") = false := by
    rw [show (Value.builtin "BaseException.__getattribute__" == Value.builtin "object.__getattribute__") = false by decide +kernel]
    rfl
  unfold getAttr? getAttrBy? getAttrBy
  refine wpAny_bind (wpAny_mkText (wpAny_bind (wpAny_attempt (wpAny_holding (wpAny_bind (lt.at (wpAny_bind (la.at ?_))))))))
  show wpAny _ _ (if (onTheHeap (Value.ref D) && Value.builtin "BaseException.__getattribute__" == Value.builtin "object.__getattribute__") = true then _ else _) _ _ _
  rw [z1, if_neg Bool.false_ne_true]
  unfold getAttrByItsOwn hookBefore
  refine wpAny_bind ?_
  rw [if_pos (show onTheHeap (Value.ref D) = true from rfl)]
  refine lb.at (wpAny_bind (wpAny_attempt (wpAny_holding ?_)))
  unfold callGetattribute
  rw [z0, if_neg Bool.false_ne_true]
  unfold boundAndCalled
  rw [PySem.F.excAttr_ValueError.ga.bind (.ref x)]
  refine wpAny_bind (wpAny_pure ?_)
  show wpAny _ _ (call (.builtin "BaseException.__getattribute__") [.ref x, .str "__class__" t]) _ _ _
  refine wpAny_call (codeAny_call_builtin PySem.F.excAttr_ValueError.ga.plain PySem.F.entry_bexc_ga (@check_slot (model prog w) _ _ ⟨hp, g, d, t + 1, os⟩ "BaseException.__getattribute__" "BaseException" "__getattribute__" (.ref x) [.str "__class__" t] [] _ (by decide +kernel) (by decide +kernel) sub (PySem.F.args_bexc_ga _ _) ?_))
  unfold Builtin.«object.__getattribute__»
  refine wpAny_bind (wpAny_of_eq (a := ((Value.ref x : Value), [Value.str "__class__" t])) (by first | rfl | (simp only [slotArgs]; rfl)) (wpAny_bind (wpAny_pure (wpAny_bind (lt.at (wpAny_bind (lf.at ?_)))))))
  show wpAny _ _ (holding [Value.builtin "object.__class__"] (call (.builtin "getset_descriptor.__get__") [.builtin "object.__class__", .ref x, .ref D]) >>= ret) _ _ _
  refine wpAny_bind (wpAny_holding (wpAny_call (class_get (s := ⟨hp, g, d, t + 1, os⟩) (ox := ox) (od := od) X I T.mo (wpAny_pure ?_))))
  show wpAny _ _ (handedOut (.ref D)) _ _ _
  rw [handedOut_of (v := .ref D) rfl]
  first
    | exact wpAny_pure (wpAny_pure h)
    | exact wpAny_pure h
    | exact wpAny_pure (wpAny_bind (wpAny_pure (wpAny_pure h)))
theorem kit_err (T : EC K D) : KitX K (.ref x) (.ref D) (fun h => InstAt h x ox D od) where
  ty := fun _ _ _ I => I.type
  it := fun _ _ X _ => by
    obtain ⟨cd, hc, _⟩ := any_some T.hd
    unfold clsIn at hc
    split at hc
    · rename_i ho
      exact fun A' Q' E' s' k q => wpAny_bind (wpAny_loadPart (k _ _ (X _ _ ho)) (wpAny_pure q))
    · cases hc
  ne := fun h tp dd its n sl X htp => by
    obtain ⟨cd, hc, _⟩ := any_some T.hd
    refine Bool.eq_false_iff.mpr fun q => ?_
    have e : D = tp := Value.ref.inj (beq_iff_eq.mp q)
    subst e
    unfold clsIn at hc
    split at hc
    · rename_i ho
      cases (X _ _ ho).symm.trans htp
    · cases hc
  ca := fun X I k => ask_cls T X I k
end
def rIsX (K : PySem.W.Frag) : List V → Hp → VK → Prop := fun xs H Q => ∃ (a C : Addr) (c : V) (u : Value) (b : Bool), xs = [.ref a, c] ∧ EC K C ∧ ErrA H a C ∧ ClsV c u ∧ PySem.W.kitOne K (.ref C) u = some b ∧ Q (.bl b) H
theorem call_isX {X : Cx} : CallR X (.builtin "isinstance") (rIsX X.K) := by
  intro pins s σ H xs us Q I r h
  obtain ⟨a, C, c, u, b, rfl, T, er, k, e, q⟩ := h
  obtain ⟨u1, u2, rfl, r1, r2⟩ := vals2 r
  have e2 := k.eq r2
  subst e2
  cases (show u1 = Value.ref a from r1)
  rcases er with ⟨fs, dx, ea, ed⟩ | ea
  · obtain ⟨t1, ho⟩ := exo_at I.hok ea
    obtain ⟨mA, hns, hr⟩ := exd_at I.hok ed
    obtain ⟨od, hd, hl⟩ := lookIn_ns hns
    exact PySem.W.kia_one (kit_err (od := some od) T) I.kIn ⟨ho, rfl, rfl, hd⟩ e (fun z => nomatch z) fun tk => ⟨.bl b, H, I.tok tk, rfl, q⟩
  · obtain ⟨⟨oe, vs, ho, hz, hd, _⟩, _, _⟩ := I.hok a _ ea
    have J : PySem.W.InstAt s.heap a oe C none := by
      obtain ⟨oc, od, oda, osl⟩ := oe
      obtain ⟨h1, h2⟩ := hz
      dsimp only at h1 h2 hd
      subst h1 h2 hd
      exact ⟨ho, rfl, rfl, trivial⟩
    exact PySem.W.kia_one (kit_err (od := none) T) I.kIn J e (fun z => nomatch z) fun tk => ⟨.bl b, H, I.tok tk, rfl, q⟩
/-! ### data as it lies in the heap, apart from the addresses in B -/
mutual
inductive Dt (B : Addr → Prop) (K : PySem.W.Frag) (H : Hp) : V → PyData → Prop
  | non : Dt B K H .non .none
  | bl (b : Bool) : Dt B K H (.bl b) (.bool b)
  | int (i : Int) : Dt B K H (.int i) (.int i)
  | str (x : Str) : Dt B K H (.str x) (.str x)
  | lst {a : Addr} {xs : List V} {ds : List PyData} (nb : ¬ B a) (ne : a ≠ sysModules) (hs : Rd H a (.lst xs)) (ha : DtAll B K H xs ds) : Dt B K H (.ref a) (.list ds)
  | tup {a : Addr} {xs : List V} {ds : List PyData} (nb : ¬ B a) (hs : Rd H a (.tup xs)) (ha : DtAll B K H xs ds) : Dt B K H (.ref a) (.tuple ds)
  | emp {a : Addr} (nb : ¬ B a) (h : H a = some (.dK [])) : Dt B K H (.ref a) (.dict [])
  | one {a : Addr} {k : Str} {i : Int} (nb : ¬ B a) (h : H a = some (.dK [(.inr k, .int i)])) : Dt B K H (.ref a) (.dict [(.str k, .int i)])
inductive DtAll (B : Addr → Prop) (K : PySem.W.Frag) (H : Hp) : List V → List PyData → Prop
  | nil : DtAll B K H [] []
  | cons {v : V} {vs : List V} {d : PyData} {ds : List PyData} (hd : Dt B K H v d) (tl : DtAll B K H vs ds) : DtAll B K H (v :: vs) (d :: ds)
end

/-- all that is tracked outside of B stays -/
def Keep (B : Addr → Prop) (H H' : Hp) : Prop := ∀ b o, ¬ B b → H b = some o → H' b = some o
theorem Keep.rfl' {B : Addr → Prop} {H : Hp} : Keep B H H := fun _ _ _ e => e
theorem Keep.trans {B : Addr → Prop} {H H1 H2 : Hp} (x : Keep B H H1) (y : Keep B H1 H2) : Keep B H H2 := fun b o n e => y b o n (x b o n e)
theorem Keep.same {B : Addr → Prop} {H H' : Hp} (x : Same H H') : Keep B H H' := fun b o _ e => x b o e
theorem keep_new {B : Addr → Prop} {H : Hp} {p : Addr} {o : HO} (n : H p = none) : Keep B H (upd H p o) := fun b u _ e => by
  rw [upd_ne (ne_of_none e n)]
  exact e
theorem same_new {H : Hp} {p : Addr} {o : HO} (n : H p = none) : Same H (upd H p o) := fun b u e => by
  rw [upd_ne (ne_of_none e n)]
  exact e
theorem Keep.rd {B : Addr → Prop} {H H' : Hp} {a : Addr} {o : HO} (k : Keep B H H') (nb : ¬ B a) (h : Rd H a o) : Rd H' a o := by
  rcases h with h | ⟨u, h⟩
  · exact .inl (k _ _ nb h)
  · exact .inr ⟨u, k _ _ nb h⟩
theorem Keep.seqL {B : Addr → Prop} {K : PySem.W.Frag} {H H' : Hp} {a : Addr} {xs : List V} (k : Keep B H H') (nb : ¬ B a) (h : SqL K H a xs) : SqL K H' a xs := by
  rcases h with (h | ⟨o, h⟩) | h
  · exact .inl (.inl (k _ _ nb h))
  · exact .inl (.inr ⟨o, k _ _ nb h⟩)
  · exact .inr h
theorem Keep.seqT {B : Addr → Prop} {K : PySem.W.Frag} {H H' : Hp} {a : Addr} {xs : List V} (k : Keep B H H') (nb : ¬ B a) (h : SqT K H a xs) : SqT K H' a xs := by
  rcases h with (h | ⟨o, h⟩) | h
  · exact .inl (.inl (k _ _ nb h))
  · exact .inl (.inr ⟨o, k _ _ nb h⟩)
  · exact .inr h
mutual
theorem Dt.keep {B : Addr → Prop} {K : PySem.W.Frag} {H H' : Hp} (k : Keep B H H') : ∀ (d : PyData) (v : V), Dt B K H v d → Dt B K H' v d
  | .none, _, h => by cases h; exact .non
  | .bool _, _, h => by cases h; exact .bl _
  | .int _, _, h => by cases h; exact .int _
  | .str _, _, h => by cases h; exact .str _
  | .list ds, _, h => by
    cases h with
    | lst nb ne hs ha => exact .lst nb ne (k.rd nb hs) (DtAll.keep k ds _ ha)
  | .tuple ds, _, h => by
    cases h with
    | tup nb hs ha => exact .tup nb (k.rd nb hs) (DtAll.keep k ds _ ha)
  | .dict _, _, h => by
    cases h with
    | emp nb e => exact .emp nb (k _ _ nb e)
    | one nb e => exact .one nb (k _ _ nb e)
theorem DtAll.keep {B : Addr → Prop} {K : PySem.W.Frag} {H H' : Hp} (k : Keep B H H') : ∀ (ds : List PyData) (vs : List V), DtAll B K H vs ds → DtAll B K H' vs ds
  | [], _, h => by cases h; exact .nil
  | d :: ds, _, h => by
    cases h with
    | cons h1 h2 => exact .cons (Dt.keep k d _ h1) (DtAll.keep k ds _ h2)
end
theorem DtAll.len {B : Addr → Prop} {K : PySem.W.Frag} {H : Hp} : ∀ {vs : List V} {ds : List PyData}, DtAll B K H vs ds → vs.length = ds.length
  | _, _, .nil => rfl
  | _, _, .cons _ t => congrArg (· + 1) (DtAll.len t)
theorem DtAll.append {B : Addr → Prop} {K : PySem.W.Frag} {H : Hp} : ∀ {vs ws : List V} {ds es : List PyData}, DtAll B K H vs ds → DtAll B K H ws es → DtAll B K H (vs ++ ws) (ds ++ es)
  | _, _, _, _, .nil, q => q
  | _, _, _, _, .cons r t, q => .cons r (DtAll.append t q)
theorem DtAll.take {B : Addr → Prop} {K : PySem.W.Frag} {H : Hp} : ∀ {vs : List V} {ds : List PyData} (n : Nat), DtAll B K H vs ds → DtAll B K H (vs.take n) (ds.take n)
  | _, _, 0, _ => .nil
  | _, _, _ + 1, .nil => .nil
  | _, _, n + 1, .cons r t => .cons r (DtAll.take n t)
theorem DtAll.drop {B : Addr → Prop} {K : PySem.W.Frag} {H : Hp} : ∀ {vs : List V} {ds : List PyData} (n : Nat), DtAll B K H vs ds → DtAll B K H (vs.drop n) (ds.drop n)
  | _, _, 0, h => h
  | _, _, _ + 1, .nil => .nil
  | _, _, n + 1, .cons _ t => DtAll.drop n t
theorem DtAll.get {B : Addr → Prop} {K : PySem.W.Frag} {H : Hp} : ∀ {vs : List V} {ds : List PyData} {i : Nat} {d : PyData}, DtAll B K H vs ds → ds[i]? = some d → ∃ v, vs[i]? = some v ∧ Dt B K H v d
  | _, _, _, _, .nil, e => by simp at e
  | _, _, 0, _, .cons r _, e => by
    simp at e
    subst e
    exact ⟨_, rfl, r⟩
  | _, _, i + 1, _, .cons _ t, e => by
    obtain ⟨v, h1, h2⟩ := DtAll.get (i := i) t (by simpa using e)
    exact ⟨v, by simpa using h1, h2⟩
theorem DtAll.getV {B : Addr → Prop} {K : PySem.W.Frag} {H : Hp} : ∀ {vs : List V} {ds : List PyData} {i : Nat} {v : V}, DtAll B K H vs ds → vs[i]? = some v → ∃ d, ds[i]? = some d ∧ Dt B K H v d
  | _, _, _, _, .nil, e => by simp at e
  | _, _, 0, _, .cons r _, e => by
    simp at e
    subst e
    exact ⟨_, rfl, r⟩
  | _, _, i + 1, _, .cons _ t, e => by
    obtain ⟨v, h1, h2⟩ := DtAll.getV (i := i) t (by simpa using e)
    exact ⟨v, by simpa using h1, h2⟩
theorem DtAll.rev {B : Addr → Prop} {K : PySem.W.Frag} {H : Hp} : ∀ {vs : List V} {ds : List PyData}, DtAll B K H vs ds → DtAll B K H vs.reverse ds.reverse
  | _, _, .nil => .nil
  | _, _, .cons r t => by
    rw [List.reverse_cons, List.reverse_cons]
    exact (DtAll.rev t).append (.cons r .nil)
theorem DtAll.rep {B : Addr → Prop} {K : PySem.W.Frag} {H : Hp} {v : V} {d : PyData} (h : Dt B K H v d) : ∀ n : Nat, DtAll B K H (List.replicate n v) (List.replicate n d)
  | 0 => .nil
  | n + 1 => .cons h (DtAll.rep h n)

section
variable {X : Cx} {pins : List (Addr × Obj)} {σ : L2.St} {H : Hp} {s : Shared}
theorem no_entries {knd : KeyKind X.prog X.w Key} {es : List DictEntry} (h : PySem.Pairs knd es ([] : List (Key × Value))) : es = [] := by
  cases h
  rfl
theorem one_entry {P : Program} {w : World} {k : Str} {i : Int} {vs : List (Key × Value)} {es : List DictEntry} (r : KV [((.inr k : Key), V.int i)] vs) (hp : PySem.Pairs (mixKind P w) es vs) : ∃ e, es = [e] ∧ (∃ t, e.key = .str k t) ∧ ∃ t, e.val = .int i t := by
  cases r with
  | cons r1 r2 =>
    cases r2
    cases hp with
    | @cons e kv _ _ h1 h2 h3 =>
      cases h3
      obtain ⟨q1, q2⟩ := r1
      refine ⟨e, rfl, ?_, ?_⟩
      · rcases keyIs_shape h1 with ⟨j, t, e1, e2⟩ | ⟨x, t, e1, e2⟩
        · rw [e1] at q1
          cases q1
        · rw [e1] at q1
          cases q1
          exact ⟨t, e2⟩
      · obtain ⟨t, q2⟩ := q2
        exact ⟨t, h2.trans q2⟩
mutual
theorem Dt.reads {B : Addr → Prop} (I : Inv X pins σ H s) : ∀ (d : PyData) (v : V) (u : Value), Dt B X.K H v d → RelV v u → ∃ as, Reads s.heap u d as ∧ sysModules ∉ as
  | .none, _, _, h, r => by
    cases h
    cases r
    exact ⟨[], .none, List.not_mem_nil⟩
  | .bool b, _, _, h, r => by
    cases h
    cases r
    exact ⟨[], .bool b, List.not_mem_nil⟩
  | .int i, _, _, h, r => by
    cases h
    obtain ⟨t, rfl⟩ := r
    exact ⟨[], .int i t, List.not_mem_nil⟩
  | .str x, _, _, h, r => by
    cases h
    obtain ⟨t, rfl⟩ := r
    exact ⟨[], .str x t, List.not_mem_nil⟩
  | .list ds, _, _, h, r => by
    cases h with
    | lst nb ne hs ha =>
      cases r
      obtain ⟨its, rv, ⟨ob, n, ho, hc, _, hd⟩, _⟩ := I.list (.inl hs)
      obtain ⟨as, hr, hn⟩ := DtAll.reads I ds _ its ha rv
      refine ⟨_, .list ho hc hd hr, fun z => ?_⟩
      rcases List.mem_cons.mp z with z | z
      · exact ne z.symm
      · exact hn z
  | .tuple ds, _, _, h, r => by
    cases h with
    | tup nb hs ha =>
      cases r
      obtain ⟨its, rv, ⟨ob, ho, hc, n, hd⟩, _⟩ := I.tuple (.inl hs)
      obtain ⟨as, hr, hn⟩ := DtAll.reads I ds _ its ha rv
      exact ⟨_, .tuple ho hc hd hr, hn⟩
  | .dict _, _, _, h, r => by
    cases h with
    | emp nb e =>
      cases r
      obtain ⟨_, hm, vs, rel, ob, es, ep, ho, hx, hd, _, hp, _⟩ := dk_of I.hok e
      cases rel
      have he := no_entries hp
      refine ⟨_, .dict (kvs := []) ho hx.1 hd (by rw [he]; exact .nil) (by rw [he]; exact .nil), fun z => ?_⟩
      rcases List.mem_cons.mp z with z | z
      · rw [← z] at hm
        simp at hm
      · simp at z
    | one nb e =>
      cases r
      obtain ⟨_, hm, vs, rel, ob, es, ep, ho, hx, hd, _, hp, _⟩ := dk_of I.hok e
      obtain ⟨e1, he, h1, h2⟩ := one_entry rel hp
      obtain ⟨t1, h1⟩ := h1
      obtain ⟨t2, h2⟩ := h2
      refine ⟨_, .dict (kvs := [(.str _, .int _)]) (as := []) (bs := []) ho hx.1 hd (by rw [he, List.map_cons, h1]; exact .cons (as := []) (.str _ _) .nil) (by rw [he, List.map_cons, h2]; exact .cons (as := []) (.int _ _) .nil), fun z => ?_⟩
      rcases List.mem_cons.mp z with z | z
      · rw [← z] at hm
        simp at hm
      · simp at z
theorem DtAll.reads {B : Addr → Prop} (I : Inv X pins σ H s) : ∀ (ds : List PyData) (vs : List V) (us : List Value), DtAll B X.K H vs ds → Vals vs us → ∃ as, ReadsAll s.heap us ds as ∧ sysModules ∉ as
  | [], _, _, h, r => by
    cases h
    cases r
    exact ⟨[], .nil, List.not_mem_nil⟩
  | d :: ds, _, _, h, r => by
    cases h with
    | cons h1 h2 =>
      cases r with
      | cons r1 r2 =>
        obtain ⟨as, q1, n1⟩ := Dt.reads I d _ _ h1 r1
        obtain ⟨bs, q2, n2⟩ := DtAll.reads I ds _ _ h2 r2
        refine ⟨_, .cons q1 q2, fun z => ?_⟩
        rcases List.mem_append.mp z with z | z
        · exact n1 z
        · exact n2 z
end
end

/-! ### repr -/
section
variable {X : Cx}
def rRepr (K : PySem.W.Frag) : List V → Hp → VK → Prop := fun xs H Q => ∃ (x : V) (d : PyData) (B : Addr → Prop), xs = [x] ∧ Dt B K H x d ∧ d.showable = true ∧ d.depth ≤ 60 ∧ d.shown.length ≤ sizeLine ∧ Q (.str d.shown) H
theorem call_reprD (hG : X.A.guards = some []) (hu : X.A.units + 64 < cLine) : CallR X (.builtin "repr") (rRepr X.K) := by
  intro pins s σ H xs us Q I r h
  obtain ⟨x, d, B, rfl, hd, hs, hdp, hz, q⟩ := h
  obtain ⟨u, rfl, rx⟩ := vals1 r
  obtain ⟨as, rd, hn⟩ := Dt.reads I d x u hd rx
  cases hd with
  | non =>
    cases rx
    exact PySem.P.repr_of_none ⟨.str _, H, I.tok _, ⟨_, rfl⟩, q⟩
  | bl b =>
    cases rx
    exact PySem.P.repr_of_bool ⟨.str _, H, I.tok _, ⟨_, rfl⟩, q⟩
  | int i =>
    obtain ⟨t, rfl⟩ := rx
    exact PySem.P.repr_of_int (by simpa [PyData.showable] using hs) ⟨.str _, H, I.tok _, ⟨_, rfl⟩, q⟩
  | str y =>
    obtain ⟨t, rfl⟩ := rx
    exact PySem.P.repr_of_str ⟨.str _, H, I.tok _, ⟨_, rfl⟩, q⟩ (by simpa only [PyData.shown] using hz)
  | lst nb ne hs' ha =>
    cases rx
    exact repr_of_reads' rd hs (fun _ => hn) hG (by omega) (fun _ _ e => e) (fun h' u tk hk => ⟨.str _, H, I.kept hk, ⟨_, rfl⟩, q⟩) hz
  | tup nb hs' ha =>
    cases rx
    exact repr_of_reads' rd hs (fun _ => hn) hG (by omega) (fun _ _ e => e) (fun h' u tk hk => ⟨.str _, H, I.kept hk, ⟨_, rfl⟩, q⟩) hz
  | emp nb e =>
    cases rx
    exact repr_of_reads' rd hs (fun _ => hn) hG (by omega) (fun _ _ e => e) (fun h' u tk hk => ⟨.str _, H, I.kept hk, ⟨_, rfl⟩, q⟩) hz
  | one nb e =>
    cases rx
    exact repr_of_reads' rd hs (fun _ => hn) hG (by omega) (fun _ _ e => e) (fun h' u tk hk => ⟨.str _, H, I.kept hk, ⟨_, rfl⟩, q⟩) hz
end
/-! ### a text told several times -/
section
variable {X : Cx}
def sA : Str := "a"
def sA201 : Str := ⟨(List.replicate 201 sA.cps).foldl (· ++ ·) #[]⟩
def rRepX : R2 := fun x y H Q => x = .str sA ∧ y = .int 201 ∧ Q (.str sA201) H
theorem op_repX : OpR X (binaryOp .Mult) rRepX := by
  intro pins s σ H x y v u Q I rx ry h
  obtain ⟨rfl, rfl, q⟩ := h
  obtain ⟨t, rfl⟩ := rx
  obtain ⟨t', rfl⟩ := ry
  refine PySem.P.mul_str (by decide +kernel) (fun _ _ => by decide +kernel) (fun _ _ => by decide +kernel) ?_
  rw [if_neg (by decide), if_neg (by decide +kernel)]
  exact ⟨by decide +kernel, .str sA201, H, I.tok _, ⟨_, rfl⟩, q⟩
end
theorem reprA201 : (reprText sA201).length ≤ 250 := by decide +kernel
/-! ### a def called where nothing is being shown (no repr under way) -/
section
variable {P : Program} {w : World} {K : PySem.W.Frag} {mg : Str → Option Value} {base : Heap}
def GRun (P : Program) (w : World) (K : PySem.W.Frag) (mg : Str → Option Value) (base : Heap) (k : Nat) (f : Addr) (fd : FuncData) (ps : List Str) (sp : Sp) : Prop :=
  ∀ (A : Around) (outer : List Env) (s : Shared) (H : Hp) (us : List Value) (vs : List V) (Q : VK),
    A.guards = some [] → Room k A → Env0 P w K mg base A outer s H → BindsTo s fd ⟨us, []⟩ (ps.zip us) → Vals vs us → vs.length = ps.length → sp vs H Q E0 →
    codeAny (model P w) A (.call (.ref f) ⟨us, []⟩) (CR CX0 outer P w H s Q E0) s
theorem grun {x qual : Str} {st : Stmt} {f : Addr} {fd : FuncData} {N ps : List Str} {k : Nat} {sp : Sp} (F : Fun K x qual st f fd) (S : FnScope N ps (defScope st))
    (body : ∀ (cdv : Value) (A : Around) (outer : List Env) (s : Shared) (H : Hp) (vs : List V) (Q : VK), A.guards = some [] → Room k (A.deeper (envOfC qual (defScope st) s.heap.objs.size f cdv)) → sp vs H Q E0 →
      ∃ t, PSs (cxOf CX0 P w K mg base N qual (defScope st) f cdv A outer s H E0).nox (defBody st) t ∧ t { nx := fun _ H' => Q .non H', rt := Q } (start N vs) H) :
    GRun P w K mg base (k + 1) f fd ps sp := by
  obtain ⟨oc, od, kV, doc, pm, an, cdv, ct, osl, rfl, lk, hcd⟩ := F.ex
  intro A outer s H us vs Q hG hr e0 hb r hl hsp
  have inK : K.In s.heap := e0.mod.kin.keeps (fun b o q => (e0.bs b o q).1)
  have noL : s.heap.NoLimit := e0.mod.nolimit.keeps (fun b o q => (e0.bs b o q).1)
  have kinds : ∀ y ∈ ps.zip us, (defScope st).names.lookup y.1 = some .local ∨ ((defScope st).names.lookup y.1 = some .cell ∧ ((cellsFrom (s.heap.objs.size + 1) (defScope st).names []).lookup y.1).isSome = true) := by
    intro y hy
    obtain ⟨n, v⟩ := y
    cases S.par n (List.of_mem_zip hy).1 with
    | inl q => exact Or.inl q
    | inr q => exact Or.inr ⟨q, PySem.W.cellsFrom_some _ _ _ (Or.inl q)⟩
  refine codeAny_call_function hr.depth (inK _ _ lk) rfl S.co S.gen rfl (PySem.W.codeRec_of inK hcd) (hb _ _ _ _ ?_)
  refine wpAny_newFunctionEnv_cells S.kind kinds (fun env he s1 x => ?_)
  cases he
  obtain ⟨t, ht, hq⟩ := body cdv A outer s H vs Q hG (hr.deeper _) hsp
  have J := inv_start (CX := CX0) (mg := mg) (E := E0) S hr.hd e0 hl r x
  refine ⟨noL.keeps x.toInCall.keep, codeAny_func (wpAny_mono (ht.nox.run [] s1 (start N vs) H _ J hq) ?_ (fun e s' z => z))⟩
  intro fl s' z
  cases fl with
  | next =>
    obtain ⟨_, H', J', q⟩ := z
    exact ⟨.non, H', J'.os, J'.bare, J'.base, J'.hok, rfl, q⟩
  | ret u =>
    obtain ⟨v, _, H', J', rv, q⟩ := z
    exact ⟨v, H', J'.os, J'.bare, J'.base, J'.hok, rv, q⟩
  | brk => exact (z.choose_spec.choose_spec.2).elim
  | cont => exact (z.choose_spec.choose_spec.2).elim

/-- called from outside with the object at a, the def at fa answers True and leaves what stood -/
abbrev TrueAt (P : Program) (w : World) (fa a : Addr) (t : Shared) : Prop :=
  codeAny (model P w) callerA (.call (.ref fa) ⟨[.ref a], []⟩)
    (fun r u => r = .ok (.ret (.bool true)) ∧
      OldK t.heap u.heap ∧ u.os = t.os ∧ AllBare u.gens) t
/-- nothing but one list of ints, known, is tracked -/
theorem gcall {k : Nat} {fa a : Addr} {fd : FuncData} {x : Str} {sp : Sp} {s₁ : Shared} {mb : Str → Option Value} {H : Hp}
    (inH : K.In s₁.heap) (atG : s₁.heap.Ns mainGlobals mg) (hb : s₁.heap.Ns builtinsNs mb) (bB : ∀ x : Str, x ≠ "__name__" → mb x = bootBuiltins x) (lim : s₁.heap.NoLimit) (hg : s₁.gens = #[])
    (hr : Room k callerA) (R : ∀ base : Heap, K.In base → base.Ns mainGlobals mg → GRun P w K mg base k fa fd [x] sp) (bind : ∀ (s : Shared) (u : Value), BindsTo s fd ⟨[u], []⟩ [(x, u)])
    (hok : HOk P w H s₁.heap) (only : ∀ b o, H b = some o → b = a ∧ (∃ ob xs, o = .frz ob (.lst xs) ∧ ∀ es ep, ob.data ≠ .dict es ep) ∧ K.lookup a = none)
    (hsp : sp [.ref a] H (fun v _ => v = .bl true) E0) :
    TrueAt P w fa a s₁ := by
  have plain : ∀ {b : Addr} {o : Obj} {es : Array DictEntry} {ep : Nat}, s₁.heap.get? b = some o → o.data = .dict es ep → H b = none := by
    intro b o es ep q d
    cases z : H b with
    | none => rfl
    | some u =>
      obtain ⟨_, ⟨ob, xs, rfl, nd⟩, _⟩ := only b u z
      obtain ⟨q2, _⟩ := hok b _ z
      rw [q] at q2
      cases q2
      exact absurd d (nd es ep)
  have nsB : ∀ {b : Addr} {m : Str → Option Value}, s₁.heap.Ns b m → (hidT s₁.heap H).Ns b m := by
    rintro b m ⟨o, es, ep, q, d, r⟩
    exact ⟨o, es, ep, hidT_get q (plain q d), d, r⟩
  have kB : K.In (hidT s₁.heap H) := by
    intro b o q
    refine hidT_get (inH b o q) ?_
    cases z : H b with
    | none => rfl
    | some u =>
      obtain ⟨e, _, n⟩ := only b u z
      rw [e, n] at q
      cases q
  have md : L2.Mod K mg (hidT s₁.heap H) := by
    obtain ⟨mc, l1, l2⟩ := lim
    exact ⟨kB, nsB atG, ⟨mb, nsB hb, bB⟩, ⟨mc, nsB l1, l2⟩⟩
  have env : Env0 P w K mg (hidT s₁.heap H) callerA [] s₁ H :=
    { frames := rfl, mod := md, bs := fun b o q => of_hidT q, bsz := Nat.le_of_eq (hidT_size _ _), funs := trivial, frf := fun b z => absurd z List.not_mem_nil, hok := hok, bare := .of_eq hg }
  have run := R _ kB (nsB atG) callerA [] s₁ H [.ref a] [.ref a] _ rfl hr env (bind s₁ (.ref a)) (.cons rfl .nil) rfl hsp
  refine codeAny_mono run (fun r s' z => ?_)
  match r, z with
  | .error _, z => exact z.elim
  | .ok .next, z => exact z.elim
  | .ok .brk, z => exact z.elim
  | .ok .cont, z => exact z.elim
  | .ok (.ret u), ⟨v, H', os, bare, un, hok', rv, q⟩ =>
    have q : v = .bl true := q
    cases q
    have rv : u = Value.bool true := rv
    cases rv
    refine ⟨rfl, .of_keep (fun b o e => ?_), os, bare⟩
    cases z : H b with
    | none => exact un.keep b o e z List.not_mem_nil List.not_mem_nil
    | some u =>
      obtain ⟨_, ⟨ob, xs, rfl, _⟩, _⟩ := only b u z
      have g1 := (hok b _ z).1
      have g2 := (hok' b _ (un.frzs b ob _ z)).1
      rw [e] at g1
      cases g1
      exact g2
/-- the law's call, the script tracked or written -/
theorem glaw {k : Nat} {fa a : Addr} {fd : FuncData} {x : Str} {sp : Sp} {s₁ : Shared} {mb : Str → Option Value} {vs : List Value} {ns : List Int}
    (inH : K.In s₁.heap) (atG : s₁.heap.Ns mainGlobals mg) (hb : s₁.heap.Ns builtinsNs mb) (bB : ∀ x : Str, x ≠ "__name__" → mb x = bootBuiltins x) (lim : s₁.heap.NoLimit) (hg : s₁.gens = #[])
    (ha : s₁.heap.get? a = some { cls := .type "list", data := .seq vs.toArray }) (hi : IntsAre vs ns) (hl : ns.length ≤ sizeLine)
    (hr : Room k callerA) (R : ∀ base : Heap, K.In base → base.Ns mainGlobals mg → GRun P w K mg base k fa fd [x] sp) (bind : ∀ (s : Shared) (u : Value), BindsTo s fd ⟨[u], []⟩ [(x, u)])
    (hsp : ∀ H : Hp, SqL K H a (ns.map V.int) → sp [.ref a] H (fun v _ => v = .bl true) E0) :
    TrueAt P w fa a s₁ := by
  have rv := vals_ints hi
  cases q : K.lookup a with
  | some o =>
    have e := (inH a o q).symm.trans ha
    cases e
    refine gcall (H := fun _ => none) inH atG hb bB lim hg hr R bind (fun b u z => by cases z) (fun b u z => by cases z) (hsp _ (.inr ⟨_, vs.toArray, _, q, rfl, rfl, rfl, ?_, by simpa using rv⟩))
    rw [List.size_toArray, hi.length]
    exact hl
  | none =>
    have tr : ∀ b u, upd (fun _ => none) a (.frz { cls := .type "list", data := .seq vs.toArray } (.lst (ns.map V.int))) b = some u → b = a ∧ u = .frz { cls := .type "list", data := .seq vs.toArray } (.lst (ns.map V.int)) := by
      intro b u z
      by_cases h : b = a
      · rw [h, upd_same] at z
        exact ⟨h, (Option.some.inj z).symm⟩
      · rw [upd_ne h] at z
        cases z
    refine gcall (H := upd (fun _ => none) a (.frz { cls := .type "list", data := .seq vs.toArray } (.lst (ns.map V.int)))) inH atG hb bB lim hg hr R bind (fun b u z => ?_) (fun b u z => ?_) (hsp _ (.inl (.inr ⟨_, upd_same⟩)))
    · obtain ⟨rfl, rfl⟩ := tr b u z
      exact ⟨ha, by rw [List.length_map]; exact hl, vs, _, rv, ha⟩
    · obtain ⟨rfl, rfl⟩ := tr b u z
      exact ⟨rfl, ⟨_, _, rfl, fun es ep d => by cases d⟩, q⟩
end
/-- the end of the row's proof -/
theorem gwalk {l : PySem.W.OpenLaw} {n k : Nat} {q : Program} {loose : List Str} {XP : (Str → Option Value) → Heap → Prop} {YP : World → Heap → Prop} {d : DefRec} {K : Params → PySem.W.Frag} {sp : World → Sp} {x : Str}
    (hn : l.most = some n) (hn2 : n ≤ sizeLine) (hdf : d.params.defaults = []) (hr : Room k callerA) (hY : ∀ (w : World) (h : Heap), YP w h → (K w.params).In h)
    (F : ∀ (w : World) (mg : Str → Option Value) (fa : Addr) (h : Heap), (K w.params).In h → h.Ns mainGlobals mg → mg d.name = some (.ref fa) →
      ∃ fd : FuncData, (∀ (s : Shared) (u : Value), BindsTo s fd ⟨[u], []⟩ [(x, u)]) ∧ ∀ base : Heap, (K w.params).In base → base.Ns mainGlobals mg → GRun l.prog w (K w.params) mg base k fa fd [x] (sp w))
    (hsp : ∀ (w : World) (H : Hp) (a : Addr) (ns : List Int), ns.length ≤ n → SqL (K w.params) H a (ns.map V.int) → sp w [.ref a] H (fun v _ => v = .bl true) E0) :
    PySem.W.WalkO q loose XP YP l.row.toRowW d [] (fun f vs => PySem.call f vs) := by
  refine Att.attach_call hn hdf (fun w s₀ s₁ mg mb fa o pm cd doc a vs ns G Y _ _ _ hmg hobj hints hlen hg => ?_)
  have inK := hY w _ Y
  obtain ⟨fd, bind, R⟩ := F w mg fa _ inK G.T.g hmg
  exact glaw inK G.T.g G.T.b G.T.builtins G.T.nolimit hg hobj hints (Nat.le_trans hlen hn2) hr R bind (fun H hS => hsp w H a ns hlen hS)
/-! ### the text by places -/
def top (i : Nat) : Stmt := PySem.Challenge.pw_sortedshelves_k00_errors_made_by_hand.main.body.getD i (.Pass ⟨0, 0, 0, 0⟩)
abbrev sDeck : Stmt := top 50
abbrev sDraw : Stmt := top 51
abbrev sOne : Stmt := top 52
abbrev sOdd : Stmt := top 53
abbrev sFirst : Stmt := top 54
abbrev sClasses : Stmt := top 55
abbrev sAll : Stmt := top 56
abbrev sFields : Stmt := top 57
abbrev sNamed : Stmt := top 58
abbrev sBounds : Stmt := top 59
abbrev sLaw : Stmt := top 60
theorem scDeck : FnScope ["_law_script", "_law_cell"] ["_law_script"] (defScope sDeck) := ⟨rfl, rfl, rfl, by decide +kernel, rfl, by decide +kernel, by decide +kernel⟩
theorem scDraw : FnScope ["_law_deck_here", "_law_many1", "_law_cell", "_law_at", "_law_mixed"] ["_law_deck_here", "_law_many1"] (defScope sDraw) := ⟨rfl, rfl, rfl, by decide +kernel, rfl, by decide +kernel, by decide +kernel⟩
theorem scOne : FnScope ["_law_deck_here", "_law_items"] ["_law_deck_here", "_law_items"] (defScope sOne) := ⟨rfl, rfl, rfl, by decide +kernel, rfl, by decide +kernel, by decide +kernel⟩
def DeckAt (a c : Addr) (cells : List Int) (n : Int) (H : Hp) : Prop :=
  a ≠ c ∧ H a = some (.lst [.ref c, .int n]) ∧ H c = some (.lst (cells.map V.int)) ∧ cells.length ≤ 63 ∧ (∀ z ∈ cells, 0 ≤ z)
theorem cut_ints (ns : List Int) (lo hi : Option Int) : ∃ ms : List Int, cutV (ns.map V.int) lo hi = ms.map V.int ∧ ms.length ≤ ns.length := by
  unfold cutV
  refine ⟨(ns.drop (HT.sIx (ns.map V.int).length 0 lo)).take (HT.sIx (ns.map V.int).length (ns.map V.int).length hi - HT.sIx (ns.map V.int).length 0 lo), by rw [List.map_take, List.map_drop], ?_⟩
  rw [List.length_take, List.length_drop]
  omega
theorem int_at {ns : List Int} {i : Nat} {x : V} (h : (ns.map V.int)[i]? = some x) : ∃ u, x = V.int u := by
  rw [List.getElem?_map] at h
  obtain ⟨u, _, e⟩ := Option.map_eq_some_iff.mp h
  exact ⟨u, e.symm⟩
section
variable {P : Program} {w : World} {K : PySem.W.Frag} {mg : Str → Option Value} {base : Heap}
def spDeck (K : PySem.W.Frag) : Sp := fun vs H Q _ => ∃ (l : Addr) (ns : List Int), vs = [.ref l] ∧ SqL K H l (ns.map V.int) ∧ ns.length ≤ 63 ∧
  ∀ (H' : Hp) (a c : Addr) (cells : List Int), Same H H' → H a = none → H c = none → DeckAt a c cells 0 H' → Q (.ref a) H'
theorem ok_deck {f : Addr} {fd : FuncData} (F : Fun K "_law_deck" "_law_deck" sDeck f fd) (mAbs : mg "abs" = none) : FnOk P w K mg base CX0 1 f fd ["_law_script"] (spDeck K) := by
  refine F.ok scDeck (fun vs H Q E h => ?_) (fun cdv A outer s H vs Q E hr h => ?_)
  · obtain ⟨l, ns, rfl, _⟩ := h
    rfl
  · obtain ⟨l, ns, rfl, hS, hlen, k⟩ := h
    refine ⟨_, pss_one (ps_ret (pe_lst (pa_cons (pe_lc (own := [("_law_cell", 1)]) (g := gName 1) (tt := tYes) rfl scDeck.nd (pi_list (pe_slice sl_list (pv 0) po_none (po_some pe_int))) (blkOk_by (N := ["_law_script", "_law_cell"]) (sc := defScope sDeck) (by decide +kernel)) (fun _ _ _ _ _ => pg_name (i := 1) scDeck.nd rfl (Or.inl rfl)) (fun _ _ _ _ _ => pts_nil)
      (fun _ _ _ _ _ => pe_callB call_abs (by rfl) mAbs (by decide +kernel) (pa_cons (pv 1) pa_nil))) (pa_cons pe_int pa_nil)))), ?_⟩
    refine ⟨_, rfl, 63, rfl, l, _, rfl, hS, fun p hp => ?_⟩
    obtain ⟨ms, e, hm⟩ := cut_ints ns none (some 63)
    rw [e]
    refine ⟨p, rfl, ⟨_, SqL.of upd_same⟩, fun D hD => ?_⟩
    have np : p ≠ D := ne_of_none upd_same hD
    have hD0 : H D = none := by
      rw [upd_ne np.symm] at hD
      exact hD
    refine lc_list (K := K) (a := p) (xs := ms.map V.int) (fun i H' => Same H H' ∧ H' p = some (.lst (ms.map V.int)) ∧ ∃ cs : List Int, H' D = some (.lst (cs.map V.int)) ∧ cs.length = i ∧ ∀ z ∈ cs, 0 ≤ z) ⟨?_, ?_, [], upd_same, rfl, fun z hz => absurd hz List.not_mem_nil⟩ (fun i H' _ q => SqL.of q.2.1) ?_ ?_
    · exact (same_new hp).trans (same_new hD)
    · rw [upd_ne np, upd_same]
    · rintro i x H' hx ⟨sm, hp', cs, hD', hl, hc⟩
      obtain ⟨u, rfl⟩ := int_at hx
      refine ⟨rfl, ?_⟩
      refine ⟨_, rfl, u, rfl, _, hD', ?_, fun b o z => ?_, ?_, cs ++ [if u < 0 then -u else u], ?_, ?_, ?_⟩
      · have hi := (List.getElem?_eq_some_iff.mp hx).1
        rw [List.length_map] at hi ⊢
        exact small1000 (by omega)
      · rw [upd_ne (ne_of_none z hD0)]
        exact sm _ _ z
      · rw [upd_ne np]
        exact hp'
      · rw [upd_same, List.map_append]
        rfl
      · rw [List.length_append, hl]
        rfl
      · intro z hz
        rcases List.mem_append.mp hz with hz | hz
        · exact hc z hz
        · rw [List.mem_singleton.mp hz]
          split <;> omega
    · rintro H' ⟨sm, hp', cs, hD', hl, hc⟩
      rw [List.length_map] at hl
      refine ⟨(by show 2 ≤ sizeLine; decide), fun a ha => ?_⟩
      have na : D ≠ a := ne_of_none hD' ha
      have ha0 : H a = none := sm.free ha
      refine k _ a D cs (sm.trans (same_new ha)) ha0 hD0 ⟨na.symm, upd_same, ?_, by omega, hc⟩
      rw [upd_ne na]
      exact hD'
end
/-- the deck's two lists -/
def Bd (a c : Addr) : Addr → Prop := fun b => b = a ∨ b = c
theorem bd_ne {a c b : Addr} {H : Hp} {o : HO} (e : H b = some o) (nl : ∀ xs, o ≠ .lst xs) {xs ys : List V} (ha : H a = some (.lst xs)) (hc : H c = some (.lst ys)) : ¬ Bd a c b := by
  rintro (h | h)
  · rw [h, ha] at e
    exact nl _ (Option.some.inj e).symm
  · rw [h, hc] at e
    exact nl _ (Option.some.inj e).symm
theorem bd_new {a c p : Addr} {H : Hp} {xs ys : List V} (n : H p = none) (ha : H a = some (.lst xs)) (hc : H c = some (.lst ys)) : ¬ Bd a c p := by
  rintro (h | h)
  · rw [h, ha] at n
    cases n
  · rw [h, hc] at n
    cases n
theorem keep_upd {a c x : Addr} {H : Hp} {o : HO} (h : Bd a c x) : Keep (Bd a c) H (upd H x o) := fun b u n e => by
  rw [upd_ne (fun z : b = x => n (z.symm ▸ h))]
  exact e
section
variable {P : Program} {w : World} {K : PySem.W.Frag} {mg : Str → Option Value} {base : Heap}
def spDraw : Sp := fun vs H Q _ => ∃ (a c : Addr) (cells : List Int) (n m : Int), vs = [.ref a, .int m] ∧ DeckAt a c cells n H ∧ 1 ≤ m ∧ m ≤ 1000000 ∧ 0 ≤ n ∧ n ≤ 1000000 ∧
  ∀ (H' : Hp) (cells' : List Int) (r : Int), 0 ≤ r → r < m → DeckAt a c cells' (n + 1) H' → Keep (Bd a c) H H' → Q (.int r) H'
theorem ok_draw {f : Addr} {fd : FuncData} (F : Fun K "_law_draw" "_law_draw" sDraw f fd) (mLen : mg "len" = none) (mInt : mg "int" = none) : FnOk P w K mg base CX0 1 f fd ["_law_deck_here", "_law_many1"] spDraw := by
  refine F.ok scDraw (fun vs H Q E h => ?_) (fun cdv A outer s H vs Q E hr h => ?_)
  · obtain ⟨a, c, cells, n, m, rfl, _⟩ := h
    rfl
  · obtain ⟨a, c, cells, n, m, rfl, ⟨nac, ha, hc, hlen, hpos⟩, m1, m2, n1, n2, k⟩ := h
    refine ⟨_, pss_cons (ps_asg (pe_op op_add (pe_ix ix_list (pv 0) pe_int (fun _ _ => rfl)) pe_int) (pg_sub (pv 0) pe_int set_list))
      (pss_cons (ps_asg (pe_tup (pa_cons pe_int (pa_cons (pe_un un_neg pe_int) pa_nil))) (pg_tup rfl (pgs_cons (pg_name (i := 2) scDraw.nd rfl (.inl rfl)) (pgs_cons (pg_name (i := 3) scDraw.nd rfl (.inl rfl)) pgs_nil))))
      (Evl.pss_cut (ps_if (pt_cmpR op_gt (pe_callB call_len_seq (by rfl) mLen PySem.boot_len (pa_cons (pe_ix ix_list (pv 0) pe_int (fun _ _ => rfl)) pa_nil)) pe_int (nomark _))
        (pss_cons (ps_set (i := 3) scDraw.nd rfl (.inl rfl) (pe_op op_mod (pe_callTy call_int1 (by rfl) mInt (by decide +kernel) (pa_cons (pe_ix ix_list (pv 0) pe_int (fun _ _ => rfl)) pa_nil)) (pe_callB call_len_seq (by rfl) mLen PySem.boot_len (pa_cons (pe_ix ix_list (pv 0) pe_int (fun _ _ => rfl)) pa_nil))))
        (pss_one (ps_set (i := 2) scDraw.nd rfl (.inl rfl) (pe_ix ix_list (pe_ix ix_list (pv 0) pe_int (fun _ _ => rfl)) (pv 3) (fun _ _ => rfl)))))
        pss_nil)
      (pss_cons (ps_if (pt_cmpR op_ge (pv 2) (pe_op op_pow pe_int pe_int) (nomark _))
        (pss_cons (ps_asg (pe_op op_fdivW (pe_callTy call_int1 (by rfl) mInt (by decide +kernel) (pa_cons (pv 2) pa_nil)) (pv 1)) (pg_sub (pe_ix ix_list (pv 0) pe_int (fun _ _ => rfl)) (pv 3) set_list))
          (pss_one (ps_ret (pe_op op_mod (pe_callTy call_int1 (by rfl) mInt (by decide +kernel) (pa_cons (pv 2) pa_nil)) (pv 1)))))
        pss_nil)
      (pss_cons (ps_set (i := 4) scDraw.nd rfl (.inl rfl) (pe_op op_add (pe_op op_add (pe_op op_mod (pe_callTy call_int1 (by rfl) mInt (by decide +kernel) (pa_cons (pv 2) pa_nil)) pe_int) (pe_op op_mul pe_int (pe_ix ix_list (pv 0) pe_int (fun _ _ => rfl)))) pe_int))
      (pss_one (ps_ret (pe_op op_mod (pe_callTy call_int1 (by rfl) mInt (by decide +kernel) (pa_cons (pe_op op_mod (pe_callTy call_int1 (by rfl) mInt (by decide +kernel) (pa_cons (pe_op op_pow (pv 4) pe_int) pa_nil)) pe_int) pa_nil)) (pv 1)))))))), ?_⟩
    refine ⟨.ref a, rfl, a, _, 1, _, rfl, rfl, SqL.of ha, atI_nat (j := 1) rfl, n, 1, rfl, rfl, .ref a, rfl, a, _, 1, 1, rfl, rfl, ha, rfl, ?_⟩
    have hA1 : upd H a (.lst [.ref c, .int (n + 1)]) a = some (.lst [.ref c, .int (n + 1)]) := upd_same
    have hC1 : upd H a (.lst [.ref c, .int (n + 1)]) c = some (.lst (cells.map V.int)) := by
      rw [upd_ne nac.symm]
      exact hc
    have k1 : Keep (Bd a c) H (upd H a (.lst [.ref c, .int (n + 1)])) := keep_upd (.inl rfl)
    refine ⟨1, rfl, (by show 2 ≤ sizeLine; decide), fun T hT => ?_⟩
    have k2 := k1.trans (keep_new (B := Bd a c) (o := .tup [.int 0, .int (-1)]) hT)
    have hA2 : upd (upd H a (.lst [.ref c, .int (n + 1)])) T (.tup [.int 0, .int (-1)]) a = some (.lst [.ref c, .int (n + 1)]) := by
      rw [upd_ne (ne_of_none hA1 hT)]
      exact hA1
    have hC2 : upd (upd H a (.lst [.ref c, .int (n + 1)])) T (.tup [.int 0, .int (-1)]) c = some (.lst (cells.map V.int)) := by
      rw [upd_ne (ne_of_none hC1 hT)]
      exact hC1
    have hT2 : upd (upd H a (.lst [.ref c, .int (n + 1)])) T (.tup [.int 0, .int (-1)]) T = some (.tup [.int 0, .int (-1)]) := upd_same
    refine ⟨T, _, rfl, SqT.of hT2, rfl, .int 0, [.int (-1)], rfl, .int (-1), [], rfl, rfl, ?_⟩
    refine ⟨fun σ' H' => ∃ cell at_ : Int, σ' = [some (.ref a), some (.int m), some (.int cell), some (.int at_), none] ∧ Keep (Bd a c) H H' ∧ H' a = some (.lst [.ref c, .int (n + 1)]) ∧ H' c = some (.lst (cells.map V.int)) ∧ 0 ≤ cell ∧ (10 ^ 18 ≤ cell → ∃ j : Nat, j < cells.length ∧ at_ = (j : Int)), ?_, ?_⟩
    · refine ⟨.ref a, rfl, a, _, 0, .ref c, rfl, rfl, SqL.of hA2, atI_nat (j := 0) rfl, c, _, rfl, .inl (SqL.of hC2), _, _, rfl, rfl, _, rfl, ite2 (fun h0 => ?_) (fun h0 => ?_)⟩
      · have h0 := of_decide_eq_true h0
        rw [List.length_map] at h0
        obtain ⟨j, hj, ej⟩ : ∃ j : Nat, j < cells.length ∧ (n + 1) % ((cells.map V.int).length : Int) = (j : Int) := by
          rw [List.length_map]
          have x1 := Int.emod_nonneg (n + 1) (b := (cells.length : Int)) (by omega)
          have x2 := Int.emod_lt_of_pos (n + 1) (b := (cells.length : Int)) h0
          exact ⟨((n + 1) % (cells.length : Int)).toNat, by omega, by omega⟩
        have gj : (cells.map V.int)[j]? = some (.int cells[j]) := by
          rw [List.getElem?_map, List.getElem?_eq_getElem hj]
          rfl
        refine ⟨.ref a, rfl, a, _, 1, _, rfl, rfl, SqL.of hA2, atI_nat (j := 1) rfl, .inl ⟨n + 1, rfl, .ref a, rfl, a, _, 0, .ref c, rfl, rfl, SqL.of hA2, atI_nat (j := 0) rfl, c, _, rfl, .inl (SqL.of hC2), _, _, rfl, rfl, (by rw [List.length_map]; exact h0), ?_⟩⟩
        refine ⟨.ref a, rfl, a, _, 0, .ref c, rfl, rfl, SqL.of hA2, atI_nat (j := 0) rfl, .int j, by rw [← ej]; rfl, c, _, _, _, rfl, rfl, SqL.of hC2, atI_nat gj, ?_⟩
        exact ⟨cells[j], j, by rw [← ej]; rfl, k2, hA2, hC2, hpos _ (List.getElem_mem hj), fun _ => ⟨j, hj, rfl⟩⟩
      · exact ⟨0, -1, rfl, k2, hA2, hC2, Int.le_refl _, fun z => absurd z (by decide)⟩
    · rintro σ' H3 ⟨cell, at_, rfl, k3, hA3, hC3, hp, hj⟩
      refine ⟨_, rfl, 10, 18, rfl, rfl, ⟨by decide, by decide, by decide⟩, _, _, rfl, rfl, _, rfl, ite2 (fun h0 => ?_) (fun h0 => ?_)⟩
      · obtain ⟨j, hj2, ea⟩ := hj (of_decide_eq_true h0)
        subst ea
        refine ⟨_, rfl, .inl ⟨cell, rfl, _, rfl, _, _, rfl, rfl, wide_div (b := 20) (by omega) (by omega) (by decide) (by decide), .ref a, rfl, a, _, 0, .ref c, rfl, rfl, SqL.of hA3, atI_nat (j := 0) rfl, _, rfl, c, _, _, j, rfl, rfl, hC3, Evl.ixN_nat (by rw [List.length_map]; exact hj2), ?_⟩⟩
        refine ⟨_, rfl, .inl ⟨cell, rfl, _, rfl, _, _, rfl, rfl, (by omega), ?_⟩⟩
        refine k _ (cells.set j (cell / m)) _ (Int.emod_nonneg _ (by omega)) (Int.emod_lt_of_pos _ (by omega)) ⟨nac, ?_, ?_, ?_, ?_⟩ (k3.trans (keep_upd (.inr rfl)))
        · rw [upd_ne nac]
          exact hA3
        · rw [upd_same, List.map_set]
        · rw [List.length_set]
          exact hlen
        · intro z hz
          rcases List.mem_or_eq_of_mem_set hz with hz | hz
          · exact hpos z hz
          · rw [hz]
            exact Int.ediv_nonneg hp (by omega)
      · have b1 := Int.emod_nonneg cell (b := 2147483563) (by decide)
        have b2 := Int.emod_lt_of_pos cell (b := 2147483563) (by decide)
        refine ⟨_, rfl, .inl ⟨cell, rfl, _, _, rfl, rfl, (by show (0 : Int) < 2147483563; decide), .ref a, rfl, a, _, 1, _, rfl, rfl, SqL.of hA3, atI_nat (j := 1) rfl, 8117, n + 1, rfl, rfl, .inl ⟨by decide, by decide⟩, _, _, rfl, rfl, _, _, rfl, rfl, ?_⟩⟩
        refine ⟨_, rfl, cell % 2147483563 + 8117 * (n + 1) + 3, 5, rfl, rfl, ⟨by decide, by decide, by omega⟩, .inl ⟨_, rfl, _, _, rfl, rfl, (by show (0 : Int) < 2147483629; decide), .inl ⟨_, rfl, _, rfl, _, _, rfl, rfl, (by omega), ?_⟩⟩⟩
        exact k _ cells _ (Int.emod_nonneg _ (by omega)) (Int.emod_lt_of_pos _ (by omega)) ⟨nac, hA3, hC3, hlen, hpos⟩ k3
end
section
variable {P : Program} {w : World} {K : PySem.W.Frag} {mg : Str → Option Value} {base : Heap}
def spOne (K : PySem.W.Frag) : Sp := fun vs H Q _ => ∃ (a c l : Addr) (cells : List Int) (n : Int) (xs : List V), vs = [.ref a, .ref l] ∧ DeckAt a c cells n H ∧ 0 ≤ n ∧ n ≤ 1000000 ∧ SqL K H l xs ∧ ¬ Bd a c l ∧ xs ≠ [] ∧ xs.length ≤ 1000 ∧
  ∀ (H' : Hp) (cells' : List Int) (x : V), x ∈ xs → DeckAt a c cells' (n + 1) H' → Keep (Bd a c) H H' → Q x H'
theorem ok_one {f fD : Addr} {fd fdD : FuncData} (F : Fun K "_law_one" "_law_one" sOne f fd) (D : FnOk P w K mg base CX0 1 fD fdD ["_law_deck_here", "_law_many1"] spDraw) (FD : Fun K "_law_draw" "_law_draw" sDraw fD fdD) (bD : Binds K fdD ["_law_deck_here", "_law_many1"] [])
    (gD : mg "_law_draw" = some (.ref fD)) (mLen : mg "len" = none) : FnOk P w K mg base CX0 2 f fd ["_law_deck_here", "_law_items"] (spOne K) := by
  refine F.ok scOne (fun vs H Q E h => ?_) (fun cdv A outer s H vs Q E hr h => ?_)
  · obtain ⟨a, c, l, cells, n, xs, rfl, _⟩ := h
    rfl
  · obtain ⟨a, c, l, cells, n, xs, rfl, dk, n0, n1, hL, nb, hne, hlen, k⟩ := h
    refine ⟨_, pss_one (ps_ret (pe_ix ix_list (pv 1) (pe_call D hr (by rfl) gD FD.kp bD .nil pass0 (pa_cons (pv 0) (pa_cons (pe_callB call_len_seq (by rfl) mLen PySem.boot_len (pa_cons (pv 1) pa_nil)) pa_nil))) (fun _ _ => rfl))), ?_⟩
    have lp : 0 < xs.length := List.length_pos_iff.mpr hne
    refine ⟨_, rfl, _, rfl, _, rfl, l, xs, rfl, .inl hL, a, c, cells, n, _, rfl, dk, by omega, by omega, n0, n1, fun H' cells' r r0 r1 dk' kp => ?_⟩
    have hr2 : r.toNat < xs.length := by omega
    refine ⟨l, xs, r, xs[r.toNat], rfl, rfl, kp.seqL nb hL, ?_, k H' cells' _ (List.getElem_mem hr2) dk' kp⟩
    have e := atI_nat (List.getElem?_eq_getElem hr2)
    rw [show ((r.toNat : Nat) : Int) = r by omega] at e
    exact e
end
section
variable {X : Cx}
/-- []: new, and no table of modules -/
def tNilN : TE := fun _ H Q => ∀ p, H p = none → p ≠ sysModules → Q (.ref p) (upd H p (.lst []))
theorem pe_nilN {pos : Pos} : PE X (.List [] pos) tNilN := by
  refine ⟨fun pins s σ H Q I h => ?_⟩
  refine wpAny_List_spliced (thn (pa_nil.run pos pins s σ H (fun xs H1 => xs = [] ∧ H1 = H) I ⟨rfl, rfl⟩) ?_)
  rintro us s1 ⟨xs, H1, I1, r, rfl, rfl⟩
  cases r
  exact ⟨Nat.zero_le _, .ref s1.heap.objs.size, _, I1.laid (o := .lst []) (t' := s1.toks) (fun b u e => Heap.get?_push_of_some _ e) (Nat.le_refl _) ⟨Nat.zero_le _, [], 0, .nil, Heap.get?_push_size _ rfl⟩, rfl, h _ (I1.hok.fresh (Nat.le_refl _)) (Nat.ne_of_gt I1.big)⟩
/-- a list display: new, and no table of modules -/
def tLstN (t : TA) : TE := fun σ H Q => t σ H fun xs H1 => xs.length ≤ sizeLine ∧ ∀ p, H1 p = none → p ≠ sysModules → Q (.ref p) (upd H1 p (.lst xs))
theorem pe_lstN {es : List Expr} {t : TA} {pos : Pos} (ht : PA X es t) : PE X (.List es pos) (tLstN t) := by
  refine ⟨fun pins s σ H Q I h => wpAny_List_spliced (thn (ht.run pos pins s σ H _ I h) ?_)⟩
  rintro us s1 ⟨xs, H1, I1, r, hz, q⟩
  have hl := r.length
  exact ⟨by rw [← hl]; exact hz, .ref s1.heap.objs.size, _, I1.laid (o := .lst xs) (t' := s1.toks) (fun b u e => Heap.get?_push_of_some _ e) (Nat.le_refl _) ⟨hz, us, 0, r, Heap.get?_push_size _ rfl⟩, rfl, q _ (I1.hok.fresh (Nat.le_refl _)) (Nat.ne_of_gt I1.big)⟩
def rCatN : R2 := fun x y H Q => ∃ l b xs zs, x = .ref l ∧ y = .ref b ∧ H l = some (.lst xs) ∧ H b = some (.lst zs) ∧ xs.length + zs.length ≤ sizeLine ∧ ∀ p, H p = none → p ≠ sysModules → Q (.ref p) (upd H p (.lst (xs ++ zs)))
theorem op_catN : OpR X (binaryOp .Add) rCatN := by
  intro pins s σ H x y v u Q I rx ry h
  obtain ⟨l, b, xs, zs, rfl, rfl, hx, hy, hz, q⟩ := h
  cases rx
  cases ry
  obtain ⟨_, its, n, r, h1, e⟩ := I.lstM hx
  obtain ⟨_, jts, m, r2, h2, e2⟩ := I.lstM hy
  refine PySem.P.add_list e e2 ?_ (by rw [List.size_toArray, List.size_toArray]; omega)
  rw [show its.toArray ++ jts.toArray = (its ++ jts).toArray by simp]
  exact ⟨.ref _, _, I.lnew (t' := s.toks) (r.append r2) (by rw [List.length_append]; omega), rfl, q _ I.fresh (Nat.ne_of_gt I.big)⟩
end
def okD (d : PyData) : Bool := d.showable && (decide (d.depth ≤ 10) && decide (d.shown.length ≤ 300))
theorem okD_iff {d : PyData} (h : okD d = true) : d.showable = true ∧ d.depth ≤ 10 ∧ d.shown.length ≤ 300 := by
  unfold okD at h
  rw [Bool.and_eq_true, Bool.and_eq_true, decide_eq_true_eq, decide_eq_true_eq] at h
  exact h
def ods1 : List PyData := [.none, .bool true, .bool false, .int 0, .int 1, .int (-1), .int 3, .int (10 ^ 30), .str "", .str "a", .str "b", .str "ab", .str "-", .str "d", .str "A", .tuple [], .list [], .dict [], .tuple [.str "a"], .list [.str "a"]]
def ods2 : List PyData := [.tuple [.none], .tuple [.str "put", .str "a"], .tuple [.str "cut", .tuple [.int 1], .int 2], .tuple [.tuple [.str "stop", .str "a"]], .str sA201, .tuple [.int 0, .int 0], .int 2]
theorem ods_ok : ∀ d ∈ ods1 ++ ods2, okD d = true := by decide +kernel
theorem same_all {B : Addr → Prop} {K : PySem.W.Frag} {H H' : Hp} {vs : List V} {ds : List PyData} (s : Same H H') (h : DtAll B K H vs ds) : DtAll B K H' vs ds := DtAll.keep (Keep.same s) _ _ h
theorem same_dt {B : Addr → Prop} {K : PySem.W.Frag} {H H' : Hp} {v : V} {d : PyData} (s : Same H H') (h : Dt B K H v d) : Dt B K H' v d := Dt.keep (Keep.same s) d v h
theorem deck_same {a c : Addr} {cells : List Int} {n : Int} {H H' : Hp} (s : Same H H') (h : DeckAt a c cells n H) : DeckAt a c cells n H' := ⟨h.1, s _ _ h.2.1, s _ _ h.2.2.1, h.2.2.2.1, h.2.2.2.2⟩
theorem deck_off {a c p : Addr} {cells : List Int} {n : Int} {H : Hp} (h : DeckAt a c cells n H) (np : H p = none) : ¬ Bd a c p := bd_new np h.2.1 h.2.2.1
section
variable {a c p : Addr} {cells : List Int} {n : Int} {K : PySem.W.Frag} {H : Hp} {xs : List V} {ds : List PyData}
theorem mk_tup (dk : DeckAt a c cells n H) (np : H p = none) (h : DtAll (Bd a c) K H xs ds) : Dt (Bd a c) K (upd H p (.tup xs)) (.ref p) (.tuple ds) ∧ DeckAt a c cells n (upd H p (.tup xs)) ∧ Same H (upd H p (.tup xs)) :=
  ⟨.tup (deck_off dk np) (.inl upd_same) (same_all (same_new np) h), deck_same (same_new np) dk, same_new np⟩
theorem mk_lst (dk : DeckAt a c cells n H) (np : H p = none) (ns : p ≠ sysModules) (h : DtAll (Bd a c) K H xs ds) : Dt (Bd a c) K (upd H p (.lst xs)) (.ref p) (.list ds) ∧ DeckAt a c cells n (upd H p (.lst xs)) ∧ Same H (upd H p (.lst xs)) :=
  ⟨.lst (deck_off dk np) ns (.inl upd_same) (same_all (same_new np) h), deck_same (same_new np) dk, same_new np⟩
theorem mk_emp (dk : DeckAt a c cells n H) (np : H p = none) : Dt (Bd a c) K (upd H p (.dK [])) (.ref p) (.dict []) ∧ DeckAt a c cells n (upd H p (.dK [])) ∧ Same H (upd H p (.dK [])) :=
  ⟨.emp (deck_off dk np) upd_same, deck_same (same_new np) dk, same_new np⟩
theorem mk_from {q : Addr} {o : HO} (dk : DeckAt a c cells n H) (np : H p = none) (nq : upd H p o q = none) : DeckAt a c cells n (upd H p o) ∧ Same H (upd H p o) ∧ upd H p o p = some o := ⟨deck_same (same_new np) dk, same_new np, upd_same⟩
end
section
variable {P : Program} {w : World} {K : PySem.W.Frag} {mg : Str → Option Value} {base : Heap}
theorem scOdd : FnScope ["_law_deck_here", "_law_some"] ["_law_deck_here"] (defScope sOdd) := ⟨rfl, rfl, rfl, by decide +kernel, rfl, by decide +kernel, by decide +kernel⟩
def spOdd (K : PySem.W.Frag) : Sp := fun vs H Q _ => ∃ (a c : Addr) (cells : List Int) (n : Int), vs = [.ref a] ∧ DeckAt a c cells n H ∧ 0 ≤ n ∧ n ≤ 1000000 ∧
  ∀ (H' : Hp) (cells' : List Int) (x : V) (d : PyData), Dt (Bd a c) K H' x d → okD d = true → DeckAt a c cells' (n + 1) H' → Keep (Bd a c) H H' → Q x H'
theorem ok_odd {f fO : Addr} {fd fdO : FuncData} (F : Fun K "_law_odd" "_law_odd" sOdd f fd) (O : FnOk P w K mg base CX0 2 fO fdO ["_law_deck_here", "_law_items"] (spOne K)) (FO : Fun K "_law_one" "_law_one" sOne fO fdO) (bO : Binds K fdO ["_law_deck_here", "_law_items"] [])
    (gO : mg "_law_one" = some (.ref fO)) : FnOk P w K mg base CX0 3 f fd ["_law_deck_here"] (spOdd K) := by
  refine F.ok scOdd (fun vs H Q E h => ?_) (fun cdv A outer s H vs Q E hr h => ?_)
  · obtain ⟨a, c, cells, n, rfl, _⟩ := h
    rfl
  · obtain ⟨a, c, cells, n, rfl, dk, n0, n1, k⟩ := h
    refine ⟨_, pss_cons (ps_set (i := 1) scOdd.nd rfl (.inl rfl) (pe_lst (pa_cons pe_non (pa_cons pe_bl (pa_cons pe_bl (pa_cons pe_int (pa_cons pe_int (pa_cons (pe_un un_neg pe_int) (pa_cons pe_int (pa_cons (pe_op op_pow pe_int pe_int)
        (pa_cons pe_str (pa_cons pe_str (pa_cons pe_str (pa_cons pe_str (pa_cons pe_str (pa_cons pe_str (pa_cons pe_str (pa_cons (pe_tup pa_nil) (pa_cons pe_nilN (pa_cons pe_dnewK (pa_cons (pe_tup (pa_cons pe_str pa_nil)) (pa_cons (pe_lstN (pa_cons pe_str pa_nil)) pa_nil))))))))))))))))))))))
      (pss_one (ps_ret (pe_call O (hr.mono (by decide)) (by rfl) gO FO.kp bO .nil pass0 (pa_cons (pv 0) (pa_cons (pe_op op_catN (pv 1) (pe_lst (pa_cons (pe_tup (pa_cons pe_non pa_nil)) (pa_cons (pe_tup (pa_cons pe_str (pa_cons pe_str pa_nil)))
        (pa_cons (pe_tup (pa_cons pe_str (pa_cons (pe_tup (pa_cons pe_int pa_nil)) (pa_cons pe_int pa_nil)))) (pa_cons (pe_tup (pa_cons (pe_tup (pa_cons pe_str (pa_cons pe_str pa_nil))) pa_nil)) (pa_cons (pe_op op_repX pe_str pe_int) (pa_cons (pe_tup (pa_cons pe_int (pa_cons pe_int pa_nil))) (pa_cons pe_int pa_nil)))))))))
          pa_nil))))), ?_⟩
    refine ⟨1, rfl, 10, 30, rfl, rfl, ⟨by decide, by decide, by decide⟩, by show 0 ≤ sizeLine; decide, fun p1 e1 => ?_⟩
    intro p2 e2 m2 p3 e3
    refine ⟨by show 1 ≤ sizeLine; decide, fun p4 e4 => ⟨by show 1 ≤ sizeLine; decide, fun p5 e5 m5 => ⟨by show 20 ≤ sizeLine; decide, fun p6 e6 => ?_⟩⟩⟩
    obtain ⟨d1, k1, s1⟩ := mk_tup (K := K) (xs := []) (ds := []) dk e1 .nil
    obtain ⟨d2, k2, s2⟩ := mk_lst (K := K) (xs := []) (ds := []) k1 e2 m2 .nil
    obtain ⟨d3, k3, s3⟩ := mk_emp (K := K) k2 e3
    obtain ⟨d4, k4, s4⟩ := mk_tup (K := K) (xs := [.str "a"]) k3 e4 (.cons (.str _) .nil)
    obtain ⟨d5, k5, s5⟩ := mk_lst (K := K) (xs := [.str "a"]) k4 e5 m5 (.cons (.str _) .nil)
    refine ⟨_, rfl, _, rfl, by show 1 ≤ sizeLine; decide, fun p7 e7 => ?_⟩
    obtain ⟨k6, s6, l6⟩ := mk_from k5 e6 e7
    obtain ⟨d7, k7, s7⟩ := mk_tup (K := K) (xs := [.non]) k6 e7 (.cons .non .nil)
    refine ⟨by show 2 ≤ sizeLine; decide, fun p8 e8 => ?_⟩
    obtain ⟨d8, k8, s8⟩ := mk_tup (K := K) (xs := [.str "put", .str "a"]) k7 e8 (.cons (.str _) (.cons (.str _) .nil))
    refine ⟨by show 1 ≤ sizeLine; decide, fun p9 e9 => ?_⟩
    obtain ⟨d9, k9, s9⟩ := mk_tup (K := K) (xs := [.int 1]) k8 e9 (.cons (.int _) .nil)
    refine ⟨by show 3 ≤ sizeLine; decide, fun p10 e10 => ?_⟩
    obtain ⟨d10, k10, s10⟩ := mk_tup (K := K) (xs := [.str "cut", .ref p9, .int 2]) k9 e10 (.cons (.str _) (.cons d9 (.cons (.int _) .nil)))
    refine ⟨by show 2 ≤ sizeLine; decide, fun p11 e11 => ?_⟩
    obtain ⟨d11, k11, s11⟩ := mk_tup (K := K) (xs := [.str "stop", .str "a"]) k10 e11 (.cons (.str _) (.cons (.str _) .nil))
    refine ⟨by show 1 ≤ sizeLine; decide, fun p12 e12 => ?_⟩
    obtain ⟨d12, k12, s12⟩ := mk_tup (K := K) (xs := [.ref p11]) k11 e12 (.cons d11 .nil)
    refine ⟨rfl, rfl, by show 2 ≤ sizeLine; decide, fun p13 e13 => ?_⟩
    obtain ⟨d13, k13, s13⟩ := mk_tup (K := K) (xs := [.int 0, .int 0]) k12 e13 (.cons (.int _) (.cons (.int _) .nil))
    refine ⟨by show 7 ≤ sizeLine; decide, fun p14 e14 => ?_⟩
    have l6' := (s7.trans (s8.trans (s9.trans (s10.trans (s11.trans (s12.trans s13)))))) _ _ l6
    refine ⟨p6, p14, _, _, rfl, rfl, same_new e14 _ _ l6', upd_same, by show 27 ≤ sizeLine; decide, fun p15 e15 _ => ?_⟩
    obtain ⟨k14, s14, _⟩ := mk_from k13 e14 e15
    have dk' := deck_same (same_new (o := .lst (([V.non, V.bl true, V.bl false, V.int 0, V.int 1, V.int (-1), V.int 3, V.int (10 ^ 30), V.str "", V.str "a", V.str "b", V.str "ab", V.str "-", V.str "d", V.str "A", V.ref p1, V.ref p2, V.ref p3, V.ref p4, V.ref p5]) ++ [V.ref p7, V.ref p8, V.ref p10, V.ref p12, V.str sA201, V.ref p13, V.int 2])) e15) k14
    have r15 := same_new (o := .lst (([V.non, V.bl true, V.bl false, V.int 0, V.int 1, V.int (-1), V.int 3, V.int (10 ^ 30), V.str "", V.str "a", V.str "b", V.str "ab", V.str "-", V.str "d", V.str "A", V.ref p1, V.ref p2, V.ref p3, V.ref p4, V.ref p5]) ++ [V.ref p7, V.ref p8, V.ref p10, V.ref p12, V.str sA201, V.ref p13, V.int 2])) e15
    have r13 := s14.trans r15
    have r12 := s13.trans r13
    have r10 := s11.trans (s12.trans r12)
    have r8 := s9.trans (s10.trans r10)
    have r7 := s8.trans r8
    have r5 := s6.trans (s7.trans r7)
    have r4 := s5.trans r5
    have r3 := s4.trans r4
    have r2 := s3.trans r3
    have r1 := s2.trans r2
    have all : DtAll (Bd a c) K _ _ (ods1 ++ ods2) := .cons .non (.cons (.bl _) (.cons (.bl _) (.cons (.int _) (.cons (.int _) (.cons (.int _) (.cons (.int _) (.cons (.int _) (.cons (.str _) (.cons (.str _) (.cons (.str _) (.cons (.str _) (.cons (.str _) (.cons (.str _) (.cons (.str _)
      (.cons (same_dt r1 d1) (.cons (same_dt r2 d2) (.cons (same_dt r3 d3) (.cons (same_dt r4 d4) (.cons (same_dt r5 d5) (.cons (same_dt r7 d7) (.cons (same_dt r8 d8) (.cons (same_dt r10 d10) (.cons (same_dt r12 d12) (.cons (.str _) (.cons (same_dt r13 d13) (.cons (.int _) .nil))))))))))))))))))))))))))
    refine ⟨a, c, p15, cells, n, _, rfl, dk', n0, n1, SqL.of upd_same, deck_off k14 e15, List.cons_ne_nil _ _, by show 27 ≤ 1000; decide, fun H' cells' x hx dk2 kp => ?_⟩
    obtain ⟨i, hi⟩ := List.mem_iff_getElem?.mp hx
    obtain ⟨d, hd, hdt⟩ := all.getV hi
    exact k H' cells' x d (Dt.keep kp _ _ hdt) (ods_ok d (List.mem_of_getElem? hd)) dk2 ((Keep.same ((s1.trans r1))).trans kp)
end
/-! ### the classes by what the written part says -/
def clsB (K : PySem.W.Frag) (C : Addr) (bmB : List Value) (newId : String) : Bool := match K.lookup C with
  | some ⟨.type "type", _, .cls cd, sl⟩ =>
    match cd.mro, sl.toList with
    | .ref D :: bm, [_, _, _, _, some (.builtin n), _] => D == C && (n == newId && (!cd.hasDel && (cd.hasDict && PySem.W.excTail bmB bm)))
    | _, _ => false
  | _ => false
theorem clsB_ok {K : PySem.W.Frag} {C : Addr} {bmB : List Value} {newId : String} (h : clsB K C bmB newId = true) :
    ∃ nm q N bs bm sn sub ab col dd k0 k1 k2 k3 k5, K.lookup C = some (excClassObj nm q C N bs bm true sn sub ab col dd k0 k1 k2 k3 k5 newId) ∧ PySem.W.excTail bmB bm = true := by
  unfold clsB at h
  split at h
  · rename_i dd cd sl ho
    split at h
    · rename_i D bm k0 k1 k2 k3 n k5 hm hs
      simp only [Bool.and_eq_true, beq_iff_eq, Bool.not_eq_true'] at h
      obtain ⟨rfl, rfl, h1, h2, h3⟩ := h
      obtain ⟨nm, bs, mro, ns, qn, hd, sn, sub, ab, col, del⟩ := cd
      obtain ⟨l⟩ := sl
      dsimp only at hm h1 h2 hs
      subst hm h1 h2 hs
      exact ⟨nm, qn, ns, bs, bm, sn, sub, ab, col, dd, k0, k1, k2, k3, k5, ho, h3⟩
    · cases h
  · cases h
/-- all that the rules ask of the class, in one -/
def ecB (K : PySem.W.Frag) (C : Addr) (bmB : List Value) (newId : String) : Bool := clsB K C bmB newId && (decide (PySem.W.findIn K (.ref C) "__setattr__" = some (some (.builtin "object.__setattr__"))) && (decide (PySem.W.findIn K (.ref C) "__getattribute__" = some (some (.builtin "BaseException.__getattribute__"))) &&
  (decide (PySem.W.findIn K (.ref C) "__getattr__" = some none) && (decide (PySem.W.subIn K (.ref C) (.type "BaseException") = some true) && (PySem.W.hasDictIn K C && (PySem.W.keepIn K (.ref C) && (decide (PySem.W.findIn K (.ref C) "__class__" = some (some (.builtin "object.__class__"))) &&
  (decide (PySem.W.specialIn K (.builtin "object.__class__") "__get__" = some (some (.builtin "getset_descriptor.__get__"))) && (decide (PySem.W.takesIn K (.builtin "object.__class__") = some true) && decide (PySem.W.mroIn K C (.type "object") = some true))))))))))
theorem ecB_ok {K : PySem.W.Frag} {C : Addr} {bmB : List Value} {B newId initId : String} (F : ExcBaseFacts B newId initId bmB) (hp : ∀ self : Value, PySem.refuseLoop self "__setattr__" bmB = pure ()) (ho : bmB.contains (.type "object") = true) (h : ecB K C bmB newId = true) : EC K C := by
  unfold ecB at h
  simp only [Bool.and_eq_true, decide_eq_true_eq] at h
  obtain ⟨h0, h1, h2, h3, h4, h5, h6, h7, h8, h9, h10⟩ := h
  obtain ⟨nm, q, N, bs, bm, sn, sub, ab, col, dd, k0, k1, k2, k3, k5, hC, ht⟩ := clsB_ok h0
  refine ⟨⟨nm, q, N, bs, bm, sn, sub, ab, col, dd, k0, k1, k2, k3, k5, B, newId, initId, bmB, hC, F, fun T => PySem.W.excTail_contains T _ ht, ⟨rfl, ?_, fun self => ?_⟩⟩, h1, h2, h3, h4, h5, h6, h7, h8, h9, h10⟩
  · rw [List.contains_cons, PySem.W.excTail_contains "object" _ ht, ho, Bool.or_true]
  · exact PySem.W.excTail_pass self (hp self) _ (show PySem.W.excTail bmB (.ref C :: bm) = true from ht)
abbrev bV : List Value := [.type "ValueError", .type "Exception", .type "BaseException", .type "object"]
abbrev bL : List Value := [.type "LookupError", .type "Exception", .type "BaseException", .type "object"]
theorem ecV {K : PySem.W.Frag} {C : Addr} (h : ecB K C bV "ValueError.__new__" = true) : EC K C := ecB_ok F.excBase_ValueError (fun self => F.store_ValueError.passes self) (by decide +kernel) h
theorem ecL {K : PySem.W.Frag} {C : Addr} (h : ecB K C bL "LookupError.__new__" = true) : EC K C := ecB_ok F.excBase_LookupError (fun self => F.store_LookupError.passes self) (by decide +kernel) h
def fo1 (f : Str) : List V → List (Str × V)
  | [y] => [(f, y)]
  | _ => []
def fo2 (f g : Str) : List V → List (Str × V)
  | [y, z] => [(g, z), (f, y)]
  | _ => []
theorem len_one {xs : List V} (h : xs.length = 1) : ∃ y, xs = [y] := match xs, h with | [y], _ => ⟨y, rfl⟩
theorem len_two {xs : List V} (h : xs.length = 2) : ∃ y z, xs = [y, z] := match xs, h with | [y, z], _ => ⟨y, z, rfl⟩
theorem one_end {H : Hp} {a C dx : Addr} {f : Str} {y : V} (nd : H dx = none) (ne : dx ≠ a) : ErrF (upd (upd H dx (exd dx [(f, y)])) a (exo a C (some dx))) a C [(f, y)] ∧ ExtB a H (upd (upd H dx (exd dx [(f, y)])) a (exo a C (some dx))) :=
  ⟨⟨dx, upd_same, by rw [upd_ne ne, upd_same]⟩, fun b o hb e => by
    rw [upd_ne hb, upd_ne (ne_of_none e nd)]
    exact e⟩
theorem two_end {H : Hp} {a C dx : Addr} {f g : Str} {y z : V} (nd : H dx = none) (ne : dx ≠ a) : ErrF (upd (upd (upd H dx (exd dx [(f, y)])) a (exo a C (some dx))) dx (exd dx [(g, z), (f, y)])) a C [(g, z), (f, y)] ∧ ExtB a H (upd (upd (upd H dx (exd dx [(f, y)])) a (exo a C (some dx))) dx (exd dx [(g, z), (f, y)])) :=
  ⟨⟨dx, by rw [upd_ne ne.symm, upd_same], upd_same⟩, fun b o hb e => by
    rw [upd_ne (ne_of_none e nd), upd_ne hb, upd_ne (ne_of_none e nd)]
    exact e⟩
section
variable {P : Program} {w : World} {K : PySem.W.Frag} {mg : Str → Option Value} {base : Heap}
abbrev si_BadText : Stmt := inClass (top 2) 0
theorem sc_BadText : FnScope ["self", "line"] ["self", "line"] (defScope si_BadText) := ⟨rfl, rfl, rfl, by decide +kernel, rfl, by decide +kernel, by decide +kernel⟩
theorem oi_BadText {C f : Addr} {fd : FuncData} (F : Fun K "__init__" "BadText.__init__" si_BadText f fd) (T : EC K C) (no : PySem.W.findIn K (.ref C) "line" = some none) : FnOk P w K mg base CX0 1 f fd ["self", "line"] (spIn C (fo1 "line") 1) := by
  refine F.ok sc_BadText (fun vs H Q E h => ?_) (fun cdv A outer s H vs Q E hr h => ?_)
  · obtain ⟨a, ys, rfl, hl, _⟩ := h
    rw [List.length_cons, hl]
    rfl
  · obtain ⟨a, ys, rfl, hl, ha, k⟩ := h
    obtain ⟨y, rfl⟩ := len_one hl
    exact ⟨_, pss_one (ps_est (pv 0) (pv 1)), _, rfl, _, rfl, a, C, rfl, T, no, .inl ⟨ha, fun dx nd ne => k _ (one_end nd ne).1 (one_end nd ne).2⟩⟩
abbrev si_BadPlan : Stmt := inClass (top 3) 0
theorem sc_BadPlan : FnScope ["self", "error"] ["self", "error"] (defScope si_BadPlan) := ⟨rfl, rfl, rfl, by decide +kernel, rfl, by decide +kernel, by decide +kernel⟩
theorem oi_BadPlan {C f : Addr} {fd : FuncData} (F : Fun K "__init__" "BadPlan.__init__" si_BadPlan f fd) (T : EC K C) (no : PySem.W.findIn K (.ref C) "error" = some none) : FnOk P w K mg base CX0 1 f fd ["self", "error"] (spIn C (fo1 "error") 1) := by
  refine F.ok sc_BadPlan (fun vs H Q E h => ?_) (fun cdv A outer s H vs Q E hr h => ?_)
  · obtain ⟨a, ys, rfl, hl, _⟩ := h
    rw [List.length_cons, hl]
    rfl
  · obtain ⟨a, ys, rfl, hl, ha, k⟩ := h
    obtain ⟨y, rfl⟩ := len_one hl
    exact ⟨_, pss_one (ps_est (pv 0) (pv 1)), _, rfl, _, rfl, a, C, rfl, T, no, .inl ⟨ha, fun dx nd ne => k _ (one_end nd ne).1 (one_end nd ne).2⟩⟩
abbrev si_BadWord : Stmt := inClass (top 4) 0
theorem sc_BadWord : FnScope ["self", "word"] ["self", "word"] (defScope si_BadWord) := ⟨rfl, rfl, rfl, by decide +kernel, rfl, by decide +kernel, by decide +kernel⟩
theorem oi_BadWord {C f : Addr} {fd : FuncData} (F : Fun K "__init__" "BadWord.__init__" si_BadWord f fd) (T : EC K C) (no : PySem.W.findIn K (.ref C) "word" = some none) : FnOk P w K mg base CX0 1 f fd ["self", "word"] (spIn C (fo1 "word") 1) := by
  refine F.ok sc_BadWord (fun vs H Q E h => ?_) (fun cdv A outer s H vs Q E hr h => ?_)
  · obtain ⟨a, ys, rfl, hl, _⟩ := h
    rw [List.length_cons, hl]
    rfl
  · obtain ⟨a, ys, rfl, hl, ha, k⟩ := h
    obtain ⟨y, rfl⟩ := len_one hl
    exact ⟨_, pss_one (ps_est (pv 0) (pv 1)), _, rfl, _, rfl, a, C, rfl, T, no, .inl ⟨ha, fun dx nd ne => k _ (one_end nd ne).1 (one_end nd ne).2⟩⟩
abbrev si_BadQuery : Stmt := inClass (top 5) 0
theorem sc_BadQuery : FnScope ["self", "query"] ["self", "query"] (defScope si_BadQuery) := ⟨rfl, rfl, rfl, by decide +kernel, rfl, by decide +kernel, by decide +kernel⟩
theorem oi_BadQuery {C f : Addr} {fd : FuncData} (F : Fun K "__init__" "BadQuery.__init__" si_BadQuery f fd) (T : EC K C) (no : PySem.W.findIn K (.ref C) "query" = some none) : FnOk P w K mg base CX0 1 f fd ["self", "query"] (spIn C (fo1 "query") 1) := by
  refine F.ok sc_BadQuery (fun vs H Q E h => ?_) (fun cdv A outer s H vs Q E hr h => ?_)
  · obtain ⟨a, ys, rfl, hl, _⟩ := h
    rw [List.length_cons, hl]
    rfl
  · obtain ⟨a, ys, rfl, hl, ha, k⟩ := h
    obtain ⟨y, rfl⟩ := len_one hl
    exact ⟨_, pss_one (ps_est (pv 0) (pv 1)), _, rfl, _, rfl, a, C, rfl, T, no, .inl ⟨ha, fun dx nd ne => k _ (one_end nd ne).1 (one_end nd ne).2⟩⟩
abbrev si_BadLine : Stmt := inClass (top 6) 0
theorem sc_BadLine : FnScope ["self", "error"] ["self", "error"] (defScope si_BadLine) := ⟨rfl, rfl, rfl, by decide +kernel, rfl, by decide +kernel, by decide +kernel⟩
theorem oi_BadLine {C f : Addr} {fd : FuncData} (F : Fun K "__init__" "BadLine.__init__" si_BadLine f fd) (T : EC K C) (no : PySem.W.findIn K (.ref C) "error" = some none) : FnOk P w K mg base CX0 1 f fd ["self", "error"] (spIn C (fo1 "error") 1) := by
  refine F.ok sc_BadLine (fun vs H Q E h => ?_) (fun cdv A outer s H vs Q E hr h => ?_)
  · obtain ⟨a, ys, rfl, hl, _⟩ := h
    rw [List.length_cons, hl]
    rfl
  · obtain ⟨a, ys, rfl, hl, ha, k⟩ := h
    obtain ⟨y, rfl⟩ := len_one hl
    exact ⟨_, pss_one (ps_est (pv 0) (pv 1)), _, rfl, _, rfl, a, C, rfl, T, no, .inl ⟨ha, fun dx nd ne => k _ (one_end nd ne).1 (one_end nd ne).2⟩⟩
abbrev si_BadComp : Stmt := inClass (top 7) 0
theorem sc_BadComp : FnScope ["self", "error"] ["self", "error"] (defScope si_BadComp) := ⟨rfl, rfl, rfl, by decide +kernel, rfl, by decide +kernel, by decide +kernel⟩
theorem oi_BadComp {C f : Addr} {fd : FuncData} (F : Fun K "__init__" "BadComp.__init__" si_BadComp f fd) (T : EC K C) (no : PySem.W.findIn K (.ref C) "error" = some none) : FnOk P w K mg base CX0 1 f fd ["self", "error"] (spIn C (fo1 "error") 1) := by
  refine F.ok sc_BadComp (fun vs H Q E h => ?_) (fun cdv A outer s H vs Q E hr h => ?_)
  · obtain ⟨a, ys, rfl, hl, _⟩ := h
    rw [List.length_cons, hl]
    rfl
  · obtain ⟨a, ys, rfl, hl, ha, k⟩ := h
    obtain ⟨y, rfl⟩ := len_one hl
    exact ⟨_, pss_one (ps_est (pv 0) (pv 1)), _, rfl, _, rfl, a, C, rfl, T, no, .inl ⟨ha, fun dx nd ne => k _ (one_end nd ne).1 (one_end nd ne).2⟩⟩
abbrev si_BadRoom : Stmt := inClass (top 8) 0
theorem sc_BadRoom : FnScope ["self", "room"] ["self", "room"] (defScope si_BadRoom) := ⟨rfl, rfl, rfl, by decide +kernel, rfl, by decide +kernel, by decide +kernel⟩
theorem oi_BadRoom {C f : Addr} {fd : FuncData} (F : Fun K "__init__" "BadRoom.__init__" si_BadRoom f fd) (T : EC K C) (no : PySem.W.findIn K (.ref C) "room" = some none) : FnOk P w K mg base CX0 1 f fd ["self", "room"] (spIn C (fo1 "room") 1) := by
  refine F.ok sc_BadRoom (fun vs H Q E h => ?_) (fun cdv A outer s H vs Q E hr h => ?_)
  · obtain ⟨a, ys, rfl, hl, _⟩ := h
    rw [List.length_cons, hl]
    rfl
  · obtain ⟨a, ys, rfl, hl, ha, k⟩ := h
    obtain ⟨y, rfl⟩ := len_one hl
    exact ⟨_, pss_one (ps_est (pv 0) (pv 1)), _, rfl, _, rfl, a, C, rfl, T, no, .inl ⟨ha, fun dx nd ne => k _ (one_end nd ne).1 (one_end nd ne).2⟩⟩
abbrev si_Outside : Stmt := inClass (top 10) 0
theorem sc_Outside : FnScope ["self", "word"] ["self", "word"] (defScope si_Outside) := ⟨rfl, rfl, rfl, by decide +kernel, rfl, by decide +kernel, by decide +kernel⟩
theorem oi_Outside {C f : Addr} {fd : FuncData} (F : Fun K "__init__" "Outside.__init__" si_Outside f fd) (T : EC K C) (no : PySem.W.findIn K (.ref C) "word" = some none) : FnOk P w K mg base CX0 1 f fd ["self", "word"] (spIn C (fo1 "word") 1) := by
  refine F.ok sc_Outside (fun vs H Q E h => ?_) (fun cdv A outer s H vs Q E hr h => ?_)
  · obtain ⟨a, ys, rfl, hl, _⟩ := h
    rw [List.length_cons, hl]
    rfl
  · obtain ⟨a, ys, rfl, hl, ha, k⟩ := h
    obtain ⟨y, rfl⟩ := len_one hl
    exact ⟨_, pss_one (ps_est (pv 0) (pv 1)), _, rfl, _, rfl, a, C, rfl, T, no, .inl ⟨ha, fun dx nd ne => k _ (one_end nd ne).1 (one_end nd ne).2⟩⟩
abbrev si_Faulty : Stmt := inClass (top 13) 0
theorem sc_Faulty : FnScope ["self", "fault"] ["self", "fault"] (defScope si_Faulty) := ⟨rfl, rfl, rfl, by decide +kernel, rfl, by decide +kernel, by decide +kernel⟩
theorem oi_Faulty {C f : Addr} {fd : FuncData} (F : Fun K "__init__" "Faulty.__init__" si_Faulty f fd) (T : EC K C) (no : PySem.W.findIn K (.ref C) "fault" = some none) : FnOk P w K mg base CX0 1 f fd ["self", "fault"] (spIn C (fo1 "fault") 1) := by
  refine F.ok sc_Faulty (fun vs H Q E h => ?_) (fun cdv A outer s H vs Q E hr h => ?_)
  · obtain ⟨a, ys, rfl, hl, _⟩ := h
    rw [List.length_cons, hl]
    rfl
  · obtain ⟨a, ys, rfl, hl, ha, k⟩ := h
    obtain ⟨y, rfl⟩ := len_one hl
    exact ⟨_, pss_one (ps_est (pv 0) (pv 1)), _, rfl, _, rfl, a, C, rfl, T, no, .inl ⟨ha, fun dx nd ne => k _ (one_end nd ne).1 (one_end nd ne).2⟩⟩
abbrev si_BadEdit : Stmt := inClass (top 22) 0
theorem sc_BadEdit : FnScope ["self", "index"] ["self", "index"] (defScope si_BadEdit) := ⟨rfl, rfl, rfl, by decide +kernel, rfl, by decide +kernel, by decide +kernel⟩
theorem oi_BadEdit {C f : Addr} {fd : FuncData} (F : Fun K "__init__" "BadEdit.__init__" si_BadEdit f fd) (T : EC K C) (no : PySem.W.findIn K (.ref C) "index" = some none) : FnOk P w K mg base CX0 1 f fd ["self", "index"] (spIn C (fo1 "index") 1) := by
  refine F.ok sc_BadEdit (fun vs H Q E h => ?_) (fun cdv A outer s H vs Q E hr h => ?_)
  · obtain ⟨a, ys, rfl, hl, _⟩ := h
    rw [List.length_cons, hl]
    rfl
  · obtain ⟨a, ys, rfl, hl, ha, k⟩ := h
    obtain ⟨y, rfl⟩ := len_one hl
    exact ⟨_, pss_one (ps_est (pv 0) (pv 1)), _, rfl, _, rfl, a, C, rfl, T, no, .inl ⟨ha, fun dx nd ne => k _ (one_end nd ne).1 (one_end nd ne).2⟩⟩
abbrev si_Rejected : Stmt := inClass (top 23) 0
theorem sc_Rejected : FnScope ["self", "index"] ["self", "index"] (defScope si_Rejected) := ⟨rfl, rfl, rfl, by decide +kernel, rfl, by decide +kernel, by decide +kernel⟩
theorem oi_Rejected {C f : Addr} {fd : FuncData} (F : Fun K "__init__" "Rejected.__init__" si_Rejected f fd) (T : EC K C) (no : PySem.W.findIn K (.ref C) "index" = some none) : FnOk P w K mg base CX0 1 f fd ["self", "index"] (spIn C (fo1 "index") 1) := by
  refine F.ok sc_Rejected (fun vs H Q E h => ?_) (fun cdv A outer s H vs Q E hr h => ?_)
  · obtain ⟨a, ys, rfl, hl, _⟩ := h
    rw [List.length_cons, hl]
    rfl
  · obtain ⟨a, ys, rfl, hl, ha, k⟩ := h
    obtain ⟨y, rfl⟩ := len_one hl
    exact ⟨_, pss_one (ps_est (pv 0) (pv 1)), _, rfl, _, rfl, a, C, rfl, T, no, .inl ⟨ha, fun dx nd ne => k _ (one_end nd ne).1 (one_end nd ne).2⟩⟩
abbrev si_NoWord : Stmt := inClass (top 24) 0
theorem sc_NoWord : FnScope ["self", "index"] ["self", "index"] (defScope si_NoWord) := ⟨rfl, rfl, rfl, by decide +kernel, rfl, by decide +kernel, by decide +kernel⟩
theorem oi_NoWord {C f : Addr} {fd : FuncData} (F : Fun K "__init__" "NoWord.__init__" si_NoWord f fd) (T : EC K C) (no : PySem.W.findIn K (.ref C) "index" = some none) : FnOk P w K mg base CX0 1 f fd ["self", "index"] (spIn C (fo1 "index") 1) := by
  refine F.ok sc_NoWord (fun vs H Q E h => ?_) (fun cdv A outer s H vs Q E hr h => ?_)
  · obtain ⟨a, ys, rfl, hl, _⟩ := h
    rw [List.length_cons, hl]
    rfl
  · obtain ⟨a, ys, rfl, hl, ha, k⟩ := h
    obtain ⟨y, rfl⟩ := len_one hl
    exact ⟨_, pss_one (ps_est (pv 0) (pv 1)), _, rfl, _, rfl, a, C, rfl, T, no, .inl ⟨ha, fun dx nd ne => k _ (one_end nd ne).1 (one_end nd ne).2⟩⟩
abbrev si_NoVersion : Stmt := inClass (top 25) 0
theorem sc_NoVersion : FnScope ["self", "version"] ["self", "version"] (defScope si_NoVersion) := ⟨rfl, rfl, rfl, by decide +kernel, rfl, by decide +kernel, by decide +kernel⟩
theorem oi_NoVersion {C f : Addr} {fd : FuncData} (F : Fun K "__init__" "NoVersion.__init__" si_NoVersion f fd) (T : EC K C) (no : PySem.W.findIn K (.ref C) "version" = some none) : FnOk P w K mg base CX0 1 f fd ["self", "version"] (spIn C (fo1 "version") 1) := by
  refine F.ok sc_NoVersion (fun vs H Q E h => ?_) (fun cdv A outer s H vs Q E hr h => ?_)
  · obtain ⟨a, ys, rfl, hl, _⟩ := h
    rw [List.length_cons, hl]
    rfl
  · obtain ⟨a, ys, rfl, hl, ha, k⟩ := h
    obtain ⟨y, rfl⟩ := len_one hl
    exact ⟨_, pss_one (ps_est (pv 0) (pv 1)), _, rfl, _, rfl, a, C, rfl, T, no, .inl ⟨ha, fun dx nd ne => k _ (one_end nd ne).1 (one_end nd ne).2⟩⟩
abbrev si_BadPage : Stmt := inClass (top 9) 0
theorem sc_BadPage : FnScope ["self", "first", "many"] ["self", "first", "many"] (defScope si_BadPage) := ⟨rfl, rfl, rfl, by decide +kernel, rfl, by decide +kernel, by decide +kernel⟩
theorem oi_BadPage {C f : Addr} {fd : FuncData} (F : Fun K "__init__" "BadPage.__init__" si_BadPage f fd) (T : EC K C) (no : PySem.W.findIn K (.ref C) "first" = some none) (no2 : PySem.W.findIn K (.ref C) "many" = some none) : FnOk P w K mg base CX0 1 f fd ["self", "first", "many"] (spIn C (fo2 "first" "many") 2) := by
  refine F.ok sc_BadPage (fun vs H Q E h => ?_) (fun cdv A outer s H vs Q E hr h => ?_)
  · obtain ⟨a, ys, rfl, hl, _⟩ := h
    rw [List.length_cons, hl]
    rfl
  · obtain ⟨a, ys, rfl, hl, ha, k⟩ := h
    obtain ⟨y, z, rfl⟩ := len_two hl
    exact ⟨_, pss_cons (ps_est (pv 0) (pv 1)) (pss_one (ps_est (pv 0) (pv 2))), _, rfl, _, rfl, a, C, rfl, T, no, .inl ⟨ha, fun dx nd ne => ⟨_, rfl, _, rfl, a, C, rfl, T, no2, .inr ⟨dx, _, upd_same, by rw [upd_ne ne, upd_same], by show 1 ≤ 900; decide, k _ (two_end nd ne).1 (two_end nd ne).2⟩⟩⟩⟩
abbrev si_Unsure : Stmt := inClass (top 14) 0
theorem sc_Unsure : FnScope ["self", "reason", "evidence"] ["self", "reason", "evidence"] (defScope si_Unsure) := ⟨rfl, rfl, rfl, by decide +kernel, rfl, by decide +kernel, by decide +kernel⟩
theorem oi_Unsure {C f : Addr} {fd : FuncData} (F : Fun K "__init__" "Unsure.__init__" si_Unsure f fd) (T : EC K C) (no : PySem.W.findIn K (.ref C) "reason" = some none) (no2 : PySem.W.findIn K (.ref C) "evidence" = some none) : FnOk P w K mg base CX0 1 f fd ["self", "reason", "evidence"] (spIn C (fo2 "reason" "evidence") 2) := by
  refine F.ok sc_Unsure (fun vs H Q E h => ?_) (fun cdv A outer s H vs Q E hr h => ?_)
  · obtain ⟨a, ys, rfl, hl, _⟩ := h
    rw [List.length_cons, hl]
    rfl
  · obtain ⟨a, ys, rfl, hl, ha, k⟩ := h
    obtain ⟨y, z, rfl⟩ := len_two hl
    exact ⟨_, pss_cons (ps_est (pv 0) (pv 1)) (pss_one (ps_est (pv 0) (pv 2))), _, rfl, _, rfl, a, C, rfl, T, no, .inl ⟨ha, fun dx nd ne => ⟨_, rfl, _, rfl, a, C, rfl, T, no2, .inr ⟨dx, _, upd_same, by rw [upd_ne ne, upd_same], by show 1 ≤ 900; decide, k _ (two_end nd ne).1 (two_end nd ne).2⟩⟩⟩⟩
end
/-! ### of which classes an error is -/
structure Nm (mg : Str → Option Value) : Prop where
  abs : mg "abs" = none
  len : mg "len" = none
  int : mg "int" = none
  isi : mg "isinstance" = none
  range : mg "range" = none
  repr : mg "repr" = none
  vE : mg "ValueError" = none
  lE : mg "LookupError" = none
/-- the classes: c their addresses in the law's order, S that of ShelfError -/
structure Cs (K : PySem.W.Frag) (mg : Str → Option Value) (c : Nat → Addr) (S : Addr) : Prop where
  ec : ∀ i, i < 24 → EC K (c i)
  kit : ∀ i j, i < 24 → j < 24 → PySem.W.kitOne K (.ref (c i)) (.ref (c j)) = some (decide (i = j))
  kS : ∀ i, i < 24 → PySem.W.kitOne K (.ref (c i)) (.ref S) = some (!(i == 11 || i == 12))
  kV : ∀ i, i < 24 → PySem.W.kitOne K (.ref (c i)) (.type "ValueError") = some (!(i == 11 || i == 12))
  kL : ∀ i, i < 24 → PySem.W.kitOne K (.ref (c i)) (.type "LookupError") = some (i == 11 || i == 12)
  eS : EC K S
  sV : PySem.W.kitOne K (.ref S) (.type "ValueError") = some true
  sL : PySem.W.kitOne K (.ref S) (.type "LookupError") = some false
  gS : mg "ShelfError" = some (.ref S)
  g0 : mg "BadText" = some (.ref (c 0))
  g1 : mg "BadPlan" = some (.ref (c 1))
  g2 : mg "BadWord" = some (.ref (c 2))
  g3 : mg "BadQuery" = some (.ref (c 3))
  g4 : mg "BadLine" = some (.ref (c 4))
  g5 : mg "BadComp" = some (.ref (c 5))
  g6 : mg "BadRoom" = some (.ref (c 6))
  g7 : mg "Outside" = some (.ref (c 7))
  g8 : mg "Faulty" = some (.ref (c 8))
  g9 : mg "BadEdit" = some (.ref (c 9))
  g10 : mg "Rejected" = some (.ref (c 10))
  g11 : mg "NoWord" = some (.ref (c 11))
  g12 : mg "NoVersion" = some (.ref (c 12))
  g13 : mg "BadPage" = some (.ref (c 13))
  g14 : mg "Unsure" = some (.ref (c 14))
  g15 : mg "Crowded" = some (.ref (c 15))
  g16 : mg "Full" = some (.ref (c 16))
  g17 : mg "Unlike" = some (.ref (c 17))
  g18 : mg "TooGreat" = some (.ref (c 18))
  g19 : mg "Busy" = some (.ref (c 19))
  g20 : mg "TooManyEdits" = some (.ref (c 20))
  g21 : mg "NothingToUndo" = some (.ref (c 21))
  g22 : mg "NothingToRedo" = some (.ref (c 22))
  g23 : mg "BadEdits" = some (.ref (c 23))
section
variable {P : Program} {w : World} {K : PySem.W.Frag} {mg : Str → Option Value} {base : Heap}
theorem scFirst : FnScope ["_law_error1", "_law_found"] ["_law_error1"] (defScope sFirst) := ⟨rfl, rfl, rfl, by decide +kernel, rfl, by decide +kernel, by decide +kernel⟩
theorem scClasses : FnScope ["_law_error1", "_law_found"] ["_law_error1"] (defScope sClasses) := ⟨rfl, rfl, rfl, by decide +kernel, rfl, by decide +kernel, by decide +kernel⟩
def bls (i lo n : Nat) : List V := (List.range n).map fun j => V.bl (decide (i = lo + j))
/-- the answers of isinstance for the classes from lo on -/
def spCl (c : Nat → Addr) (n : Nat) : Sp := fun vs H Q _ => ∃ (a : Addr) (i : Nat), vs = [.ref a] ∧ i < 24 ∧ ErrA H a (c i) ∧ ∀ (H' : Hp) (p : Addr), Same H H' → H p = none → p ≠ sysModules → H' p = some (.lst (bls i 0 n)) → Q (.ref p) H'
theorem ok_first {f : Addr} {fd : FuncData} {c : Nat → Addr} {S : Addr} (F : Fun K "_law_first_classes" "_law_first_classes" sFirst f fd) (T : Nm mg) (L : Cs K mg c S) : FnOk P w K mg base CX0 1 f fd ["_law_error1"] (spCl c 12) := by
  refine F.ok scFirst (fun vs H Q E h => ?_) (fun cdv A outer s H vs Q E hr h => ?_)
  · obtain ⟨a, i, rfl, _⟩ := h
    rfl
  · obtain ⟨a, i, rfl, hi, er, k⟩ := h
    refine ⟨_, pss_cons (ps_set (i := 1) scFirst.nd rfl (.inl rfl) (pe_lst (pa_cons (pe_callB call_isX (by rfl) T.isi PyProof.Rows.boot_isinstance (pa_cons (pv 0) (pa_cons (pe_glob (v := .ref (c 0)) (by rfl) L.g0 rfl) pa_nil))) (pa_cons (pe_callB call_isX (by rfl) T.isi PyProof.Rows.boot_isinstance (pa_cons (pv 0) (pa_cons (pe_glob (v := .ref (c 1)) (by rfl) L.g1 rfl) pa_nil))) (pa_cons (pe_callB call_isX (by rfl) T.isi PyProof.Rows.boot_isinstance (pa_cons (pv 0) (pa_cons (pe_glob (v := .ref (c 2)) (by rfl) L.g2 rfl) pa_nil))) pa_nil))))) (pss_cons (ps_set (i := 1) scFirst.nd rfl (.inl rfl) (pe_op op_cat (pv 1) (pe_lst (pa_cons (pe_callB call_isX (by rfl) T.isi PyProof.Rows.boot_isinstance (pa_cons (pv 0) (pa_cons (pe_glob (v := .ref (c 3)) (by rfl) L.g3 rfl) pa_nil))) (pa_cons (pe_callB call_isX (by rfl) T.isi PyProof.Rows.boot_isinstance (pa_cons (pv 0) (pa_cons (pe_glob (v := .ref (c 4)) (by rfl) L.g4 rfl) pa_nil))) (pa_cons (pe_callB call_isX (by rfl) T.isi PyProof.Rows.boot_isinstance (pa_cons (pv 0) (pa_cons (pe_glob (v := .ref (c 5)) (by rfl) L.g5 rfl) pa_nil))) pa_nil)))))) (pss_cons (ps_set (i := 1) scFirst.nd rfl (.inl rfl) (pe_op op_cat (pv 1) (pe_lst (pa_cons (pe_callB call_isX (by rfl) T.isi PyProof.Rows.boot_isinstance (pa_cons (pv 0) (pa_cons (pe_glob (v := .ref (c 6)) (by rfl) L.g6 rfl) pa_nil))) (pa_cons (pe_callB call_isX (by rfl) T.isi PyProof.Rows.boot_isinstance (pa_cons (pv 0) (pa_cons (pe_glob (v := .ref (c 7)) (by rfl) L.g7 rfl) pa_nil))) (pa_cons (pe_callB call_isX (by rfl) T.isi PyProof.Rows.boot_isinstance (pa_cons (pv 0) (pa_cons (pe_glob (v := .ref (c 8)) (by rfl) L.g8 rfl) pa_nil))) pa_nil)))))) (pss_one (ps_ret (pe_op op_catN (pv 1) (pe_lst (pa_cons (pe_callB call_isX (by rfl) T.isi PyProof.Rows.boot_isinstance (pa_cons (pv 0) (pa_cons (pe_glob (v := .ref (c 9)) (by rfl) L.g9 rfl) pa_nil))) (pa_cons (pe_callB call_isX (by rfl) T.isi PyProof.Rows.boot_isinstance (pa_cons (pv 0) (pa_cons (pe_glob (v := .ref (c 10)) (by rfl) L.g10 rfl) pa_nil))) (pa_cons (pe_callB call_isX (by rfl) T.isi PyProof.Rows.boot_isinstance (pa_cons (pv 0) (pa_cons (pe_glob (v := .ref (c 11)) (by rfl) L.g11 rfl) pa_nil))) pa_nil))))))))), ?_⟩
    refine ⟨_, rfl, a, _, _, _, _, rfl, L.ec i hi, er, .own _, L.kit i 0 hi (by decide), ?_⟩
    refine ⟨_, rfl, a, _, _, _, _, rfl, L.ec i hi, er, .own _, L.kit i 1 hi (by decide), ?_⟩
    refine ⟨_, rfl, a, _, _, _, _, rfl, L.ec i hi, er, .own _, L.kit i 2 hi (by decide), ?_⟩
    refine ⟨by show 3 ≤ sizeLine; decide, fun p0 e0 => ?_⟩
    have er := er.same (same_new (o := .lst (bls i 0 3)) e0)
    have s0 := same_new (o := .lst (bls i 0 3)) e0
    refine ⟨_, rfl, ?_⟩
    refine ⟨_, rfl, a, _, _, _, _, rfl, L.ec i hi, er, .own _, L.kit i 3 hi (by decide), ?_⟩
    refine ⟨_, rfl, a, _, _, _, _, rfl, L.ec i hi, er, .own _, L.kit i 4 hi (by decide), ?_⟩
    refine ⟨_, rfl, a, _, _, _, _, rfl, L.ec i hi, er, .own _, L.kit i 5 hi (by decide), ?_⟩
    refine ⟨by show 3 ≤ sizeLine; decide, fun q1 f1 => ?_⟩
    have u1 := same_new (o := .lst (bls i 3 3)) f1
    refine ⟨p0, q1, bls i 0 3, bls i 3 3, rfl, rfl, u1 _ _ upd_same, upd_same, by show 6 ≤ sizeLine; decide, fun p1 e1 => ?_⟩
    have s1 := s0.trans (u1.trans (same_new (o := .lst (bls i 0 6)) e1))
    have er := er.same (u1.trans (same_new (o := .lst (bls i 0 6)) e1))
    refine ⟨_, rfl, ?_⟩
    refine ⟨_, rfl, a, _, _, _, _, rfl, L.ec i hi, er, .own _, L.kit i 6 hi (by decide), ?_⟩
    refine ⟨_, rfl, a, _, _, _, _, rfl, L.ec i hi, er, .own _, L.kit i 7 hi (by decide), ?_⟩
    refine ⟨_, rfl, a, _, _, _, _, rfl, L.ec i hi, er, .own _, L.kit i 8 hi (by decide), ?_⟩
    refine ⟨by show 3 ≤ sizeLine; decide, fun q2 f2 => ?_⟩
    have u2 := same_new (o := .lst (bls i 6 3)) f2
    refine ⟨p1, q2, bls i 0 6, bls i 6 3, rfl, rfl, u2 _ _ upd_same, upd_same, by show 9 ≤ sizeLine; decide, fun p2 e2 => ?_⟩
    have s2 := s1.trans (u2.trans (same_new (o := .lst (bls i 0 9)) e2))
    have er := er.same (u2.trans (same_new (o := .lst (bls i 0 9)) e2))
    refine ⟨_, rfl, ?_⟩
    refine ⟨_, rfl, a, _, _, _, _, rfl, L.ec i hi, er, .own _, L.kit i 9 hi (by decide), ?_⟩
    refine ⟨_, rfl, a, _, _, _, _, rfl, L.ec i hi, er, .own _, L.kit i 10 hi (by decide), ?_⟩
    refine ⟨_, rfl, a, _, _, _, _, rfl, L.ec i hi, er, .own _, L.kit i 11 hi (by decide), ?_⟩
    refine ⟨by show 3 ≤ sizeLine; decide, fun q3 f3 => ?_⟩
    have u3 := same_new (o := .lst (bls i 9 3)) f3
    refine ⟨p2, q3, bls i 0 9, bls i 9 3, rfl, rfl, u3 _ _ upd_same, upd_same, by show 12 ≤ sizeLine; decide, fun p3 e3 m3 => ?_⟩
    have s3 := s2.trans (u3.trans (same_new (o := .lst (bls i 0 12)) e3))
    exact k _ p3 s3 (s2.free (u3.free e3)) m3 upd_same
theorem ok_classes {f fA : Addr} {fd fdA : FuncData} {c : Nat → Addr} {S : Addr} (F : Fun K "_law_classes" "_law_classes" sClasses f fd) (A1 : FnOk P w K mg base CX0 1 fA fdA ["_law_error1"] (spCl c 12)) (FA : Fun K "_law_first_classes" "_law_first_classes" sFirst fA fdA) (bA : Binds K fdA ["_law_error1"] []) (gA : mg "_law_first_classes" = some (.ref fA))
    (T : Nm mg) (L : Cs K mg c S) : FnOk P w K mg base CX0 2 f fd ["_law_error1"] (spCl c 24) := by
  refine F.ok scClasses (fun vs H Q E h => ?_) (fun cdv A outer s H vs Q E hr h => ?_)
  · obtain ⟨a, i, rfl, _⟩ := h
    rfl
  · obtain ⟨a, i, rfl, hi, er, k⟩ := h
    refine ⟨_, pss_cons (ps_set (i := 1) scClasses.nd rfl (.inl rfl) (pe_op op_cat (pe_call A1 (hr.mono (by decide)) (by rfl) gA FA.kp bA .nil pass0 (pa_cons (pv 0) pa_nil)) (pe_lst (pa_cons (pe_callB call_isX (by rfl) T.isi PyProof.Rows.boot_isinstance (pa_cons (pv 0) (pa_cons (pe_glob (v := .ref (c 12)) (by rfl) L.g12 rfl) pa_nil))) (pa_cons (pe_callB call_isX (by rfl) T.isi PyProof.Rows.boot_isinstance (pa_cons (pv 0) (pa_cons (pe_glob (v := .ref (c 13)) (by rfl) L.g13 rfl) pa_nil))) pa_nil))))) (pss_cons (ps_set (i := 1) scClasses.nd rfl (.inl rfl) (pe_op op_cat (pv 1) (pe_lst (pa_cons (pe_callB call_isX (by rfl) T.isi PyProof.Rows.boot_isinstance (pa_cons (pv 0) (pa_cons (pe_glob (v := .ref (c 14)) (by rfl) L.g14 rfl) pa_nil))) (pa_cons (pe_callB call_isX (by rfl) T.isi PyProof.Rows.boot_isinstance (pa_cons (pv 0) (pa_cons (pe_glob (v := .ref (c 15)) (by rfl) L.g15 rfl) pa_nil))) (pa_cons (pe_callB call_isX (by rfl) T.isi PyProof.Rows.boot_isinstance (pa_cons (pv 0) (pa_cons (pe_glob (v := .ref (c 16)) (by rfl) L.g16 rfl) pa_nil))) pa_nil)))))) (pss_cons (ps_set (i := 1) scClasses.nd rfl (.inl rfl) (pe_op op_cat (pv 1) (pe_lst (pa_cons (pe_callB call_isX (by rfl) T.isi PyProof.Rows.boot_isinstance (pa_cons (pv 0) (pa_cons (pe_glob (v := .ref (c 17)) (by rfl) L.g17 rfl) pa_nil))) (pa_cons (pe_callB call_isX (by rfl) T.isi PyProof.Rows.boot_isinstance (pa_cons (pv 0) (pa_cons (pe_glob (v := .ref (c 18)) (by rfl) L.g18 rfl) pa_nil))) (pa_cons (pe_callB call_isX (by rfl) T.isi PyProof.Rows.boot_isinstance (pa_cons (pv 0) (pa_cons (pe_glob (v := .ref (c 19)) (by rfl) L.g19 rfl) pa_nil))) pa_nil)))))) (pss_cons (ps_set (i := 1) scClasses.nd rfl (.inl rfl) (pe_op op_cat (pv 1) (pe_lst (pa_cons (pe_callB call_isX (by rfl) T.isi PyProof.Rows.boot_isinstance (pa_cons (pv 0) (pa_cons (pe_glob (v := .ref (c 20)) (by rfl) L.g20 rfl) pa_nil))) (pa_cons (pe_callB call_isX (by rfl) T.isi PyProof.Rows.boot_isinstance (pa_cons (pv 0) (pa_cons (pe_glob (v := .ref (c 21)) (by rfl) L.g21 rfl) pa_nil))) pa_nil))))) (pss_one (ps_ret (pe_op op_catN (pv 1) (pe_lst (pa_cons (pe_callB call_isX (by rfl) T.isi PyProof.Rows.boot_isinstance (pa_cons (pv 0) (pa_cons (pe_glob (v := .ref (c 22)) (by rfl) L.g22 rfl) pa_nil))) (pa_cons (pe_callB call_isX (by rfl) T.isi PyProof.Rows.boot_isinstance (pa_cons (pv 0) (pa_cons (pe_glob (v := .ref (c 23)) (by rfl) L.g23 rfl) pa_nil))) pa_nil))))))))), ?_⟩
    refine ⟨_, rfl, a, i, rfl, hi, er, fun H0 p0 s0 e0 _ l0 => ?_⟩
    have er := er.same s0
    refine ⟨_, rfl, a, _, _, _, _, rfl, L.ec i hi, er, .own _, L.kit i 12 hi (by decide), ?_⟩
    refine ⟨_, rfl, a, _, _, _, _, rfl, L.ec i hi, er, .own _, L.kit i 13 hi (by decide), ?_⟩
    refine ⟨by show 2 ≤ sizeLine; decide, fun q0 f0 => ?_⟩
    have u0 := same_new (o := .lst (bls i 12 2)) f0
    refine ⟨p0, q0, bls i 0 12, bls i 12 2, rfl, rfl, u0 _ _ l0, upd_same, by show 14 ≤ sizeLine; decide, fun p1 e1 => ?_⟩
    have s1 := s0.trans (u0.trans (same_new (o := .lst (bls i 0 14)) e1))
    have er := er.same (u0.trans (same_new (o := .lst (bls i 0 14)) e1))
    refine ⟨_, rfl, ?_⟩
    refine ⟨_, rfl, a, _, _, _, _, rfl, L.ec i hi, er, .own _, L.kit i 14 hi (by decide), ?_⟩
    refine ⟨_, rfl, a, _, _, _, _, rfl, L.ec i hi, er, .own _, L.kit i 15 hi (by decide), ?_⟩
    refine ⟨_, rfl, a, _, _, _, _, rfl, L.ec i hi, er, .own _, L.kit i 16 hi (by decide), ?_⟩
    refine ⟨by show 3 ≤ sizeLine; decide, fun q1 f1 => ?_⟩
    have u1 := same_new (o := .lst (bls i 14 3)) f1
    refine ⟨p1, q1, bls i 0 14, bls i 14 3, rfl, rfl, u1 _ _ upd_same, upd_same, by show 17 ≤ sizeLine; decide, fun p2 e2 => ?_⟩
    have s2 := s1.trans (u1.trans (same_new (o := .lst (bls i 0 17)) e2))
    have er := er.same (u1.trans (same_new (o := .lst (bls i 0 17)) e2))
    refine ⟨_, rfl, ?_⟩
    refine ⟨_, rfl, a, _, _, _, _, rfl, L.ec i hi, er, .own _, L.kit i 17 hi (by decide), ?_⟩
    refine ⟨_, rfl, a, _, _, _, _, rfl, L.ec i hi, er, .own _, L.kit i 18 hi (by decide), ?_⟩
    refine ⟨_, rfl, a, _, _, _, _, rfl, L.ec i hi, er, .own _, L.kit i 19 hi (by decide), ?_⟩
    refine ⟨by show 3 ≤ sizeLine; decide, fun q2 f2 => ?_⟩
    have u2 := same_new (o := .lst (bls i 17 3)) f2
    refine ⟨p2, q2, bls i 0 17, bls i 17 3, rfl, rfl, u2 _ _ upd_same, upd_same, by show 20 ≤ sizeLine; decide, fun p3 e3 => ?_⟩
    have s3 := s2.trans (u2.trans (same_new (o := .lst (bls i 0 20)) e3))
    have er := er.same (u2.trans (same_new (o := .lst (bls i 0 20)) e3))
    refine ⟨_, rfl, ?_⟩
    refine ⟨_, rfl, a, _, _, _, _, rfl, L.ec i hi, er, .own _, L.kit i 20 hi (by decide), ?_⟩
    refine ⟨_, rfl, a, _, _, _, _, rfl, L.ec i hi, er, .own _, L.kit i 21 hi (by decide), ?_⟩
    refine ⟨by show 2 ≤ sizeLine; decide, fun q3 f3 => ?_⟩
    have u3 := same_new (o := .lst (bls i 20 2)) f3
    refine ⟨p3, q3, bls i 0 20, bls i 20 2, rfl, rfl, u3 _ _ upd_same, upd_same, by show 22 ≤ sizeLine; decide, fun p4 e4 => ?_⟩
    have s4 := s3.trans (u3.trans (same_new (o := .lst (bls i 0 22)) e4))
    have er := er.same (u3.trans (same_new (o := .lst (bls i 0 22)) e4))
    refine ⟨_, rfl, ?_⟩
    refine ⟨_, rfl, a, _, _, _, _, rfl, L.ec i hi, er, .own _, L.kit i 22 hi (by decide), ?_⟩
    refine ⟨_, rfl, a, _, _, _, _, rfl, L.ec i hi, er, .own _, L.kit i 23 hi (by decide), ?_⟩
    refine ⟨by show 2 ≤ sizeLine; decide, fun q4 f4 => ?_⟩
    have u4 := same_new (o := .lst (bls i 22 2)) f4
    refine ⟨p4, q4, bls i 0 22, bls i 22 2, rfl, rfl, u4 _ _ upd_same, upd_same, by show 24 ≤ sizeLine; decide, fun p5 e5 m5 => ?_⟩
    have s5 := s4.trans (u4.trans (same_new (o := .lst (bls i 0 24)) e5))
    exact k _ p5 s5 (s4.free (u4.free e5)) m5 upd_same
end
/-! ### errors of all classes -/
structure C1 (P : Program) (w : World) (K : PySem.W.Frag) (mg : Str → Option Value) (base : Heap) (x : Str) (C : Addr) (f : Str) : Prop where
  T : EC K C
  gl : mg x = some (.ref C)
  no : PySem.W.findIn K (.ref C) f = some none
  made : ∃ fI fd, PySem.W.findIn K (.ref C) "__init__" = some (some (.ref fI)) ∧ PySem.W.typeIn K (.ref fI) = some (.type "function") ∧ FnOk P w K mg base CX0 1 fI fd ["self", f] (spIn C (fo1 f) 1) ∧ Binds K fd ["self", f] [] ∧ KBn K fd ["self", f] 1 [f] (fun us ws => us ++ id ws) (fun vs zs => vs ++ id zs)
structure C2 (P : Program) (w : World) (K : PySem.W.Frag) (mg : Str → Option Value) (base : Heap) (x : Str) (C : Addr) (f g : Str) : Prop where
  T : EC K C
  gl : mg x = some (.ref C)
  no : PySem.W.findIn K (.ref C) f = some none
  no2 : PySem.W.findIn K (.ref C) g = some none
  made : ∃ fI fd, PySem.W.findIn K (.ref C) "__init__" = some (some (.ref fI)) ∧ PySem.W.typeIn K (.ref fI) = some (.type "function") ∧ FnOk P w K mg base CX0 1 fI fd ["self", f, g] (spIn C (fo2 f g) 2) ∧ Binds K fd ["self", f, g] [] ∧ KBn K fd ["self", f, g] 1 [g, f] (fun us ws => us ++ ws.reverse) (fun vs zs => vs ++ zs.reverse)
structure C0 (K : PySem.W.Frag) (mg : Str → Option Value) (x : Str) (C : Addr) : Prop where
  gl : mg x = some (.ref C)
  kC : PySem.W.keepIn K (.ref C) = true
  ex : PySem.W.excIn K C bV "ValueError.__new__" = true
def tErr0S (C : Addr) : TE := fun _ H Q => ∀ a H', Same H H' → H a = none → H' a = some (ExO (.ref C) a) → Q (.ref a) H'
def tLstA (t : TA) : TE := fun σ H Q => t σ H fun xs H1 => xs.length ≤ sizeLine ∧ ∀ p H', Same H1 H' → H1 p = none → p ≠ sysModules → H' p = some (.lst xs) → Q (.ref p) H'
def rCatA : R2 := fun x y H Q => ∃ l b xs zs, x = .ref l ∧ y = .ref b ∧ H l = some (.lst xs) ∧ H b = some (.lst zs) ∧ xs.length + zs.length ≤ sizeLine ∧ ∀ p H', Same H H' → H p = none → p ≠ sysModules → H' p = some (.lst (xs ++ zs)) → Q (.ref p) H'
section
variable {X : Cx} {e : Expr} {es : List Expr} {ta tk : TA} {f g x : Str} {p pos : Pos} {C : Addr} {kws : List Keyword}
theorem pe_c1 (c : C1 X.prog X.w X.K X.mg X.base x C f) (hr : Room 2 X.A) (hg : Gl X x) (ha : PA X (e :: es) ta) (hdb : (x == ("__debug__" : Str)) = false := by decide) (he : starEach (e :: es) X.env = (false, eval e X.env) :: starEach es X.env := by rfl) (hpl : (backTo pos (starEach es X.env)).any (·.1) = false := by rfl) :
    PE X (.Call (.Name x p) (e :: es) [] pos) (tErr C (fo1 f) 1 ta) := by
  obtain ⟨fI, fd, h1, h2, h3, h4, _⟩ := c.made
  exact pe_err c.T h1 h2 h3 hr h4 rfl (by decide) hg c.gl ha hdb he hpl
theorem pe_c2 (c : C2 X.prog X.w X.K X.mg X.base x C f g) (hr : Room 2 X.A) (hg : Gl X x) (ha : PA X (e :: es) ta) (hdb : (x == ("__debug__" : Str)) = false := by decide) (he : starEach (e :: es) X.env = (false, eval e X.env) :: starEach es X.env := by rfl) (hpl : (backTo pos (starEach es X.env)).any (·.1) = false := by rfl) :
    PE X (.Call (.Name x p) (e :: es) [] pos) (tErr C (fo2 f g) 2 ta) := by
  obtain ⟨fI, fd, h1, h2, h3, h4, _⟩ := c.made
  exact pe_err c.T h1 h2 h3 hr h4 rfl (by decide) hg c.gl ha hdb he hpl
theorem pe_k1 (c : C1 X.prog X.w X.K X.mg X.base x C f) (hr : Room 2 X.A) (hg : Gl X x) (hkw : PK X kws tk) (hall : (backToKw pos (keywordEach kws X.env)).all (·.1.isSome) = true := by rfl) (hkn : (backToKw pos (keywordEach kws X.env)).filterMap (·.1) = [f] := by rfl) (hdb : (x == ("__debug__" : Str)) = false := by decide)
    (hpl : ((backTo pos (starEach [] X.env)).any (·.1) || (backToKw pos (keywordEach kws X.env)).any (·.1.isNone)) = false := by rfl) : PE X (.Call (.Name x p) [] kws pos) (tErrK C (fo1 f) 1 id tk) := by
  obtain ⟨fI, fd, h1, h2, h3, _, h5⟩ := c.made
  exact pe_errK c.T h1 h2 h3 hr h5 (fun zs h => h) rfl hg c.gl hkw hall hkn hdb hpl
theorem pe_k2 (c : C2 X.prog X.w X.K X.mg X.base x C f g) (hr : Room 2 X.A) (hg : Gl X x) (hkw : PK X kws tk) (hall : (backToKw pos (keywordEach kws X.env)).all (·.1.isSome) = true := by rfl) (hkn : (backToKw pos (keywordEach kws X.env)).filterMap (·.1) = [g, f] := by rfl) (hdb : (x == ("__debug__" : Str)) = false := by decide)
    (hpl : ((backTo pos (starEach [] X.env)).any (·.1) || (backToKw pos (keywordEach kws X.env)).any (·.1.isNone)) = false := by rfl) : PE X (.Call (.Name x p) [] kws pos) (tErrK C (fo2 f g) 2 List.reverse tk) := by
  obtain ⟨fI, fd, h1, h2, h3, _, h5⟩ := c.made
  exact pe_errK c.T h1 h2 h3 hr h5 (fun zs h => by rw [List.length_reverse]; exact h) rfl hg c.gl hkw hall hkn hdb hpl
theorem pe_c0 (c : C0 X.K X.mg x C) (hg : Gl X x) (hdb : (x == ("__debug__" : Str)) = false := by decide) : PE X (.Call (.Name x p) [] [] pos) (tErr0S C) :=
  ⟨fun pins s σ H Q I h => (pe_err0 F.excBase_ValueError c.ex c.gl c.kC hg hdb).run pins s σ H Q I fun a na => h a _ (same_new na) na upd_same⟩
theorem pe_lstA {es : List Expr} {t : TA} {pos : Pos} (ht : PA X es t) : PE X (.List es pos) (tLstA t) := by
  refine ⟨fun pins s σ H Q I h => wpAny_List_spliced (thn (ht.run pos pins s σ H _ I h) ?_)⟩
  rintro us s1 ⟨xs, H1, I1, r, hz, q⟩
  have hl := r.length
  have np := I1.hok.fresh (Nat.le_refl s1.heap.objs.size)
  exact ⟨by rw [← hl]; exact hz, .ref s1.heap.objs.size, _, I1.laid (o := .lst xs) (t' := s1.toks) (fun b u e => Heap.get?_push_of_some _ e) (Nat.le_refl _) ⟨hz, us, 0, r, Heap.get?_push_size _ rfl⟩, rfl, q _ _ (same_new np) np (Nat.ne_of_gt I1.big) upd_same⟩
theorem op_catA' : OpR X (binaryOp .Add) rCatA := by
  intro pins s σ H x y v u Q I rx ry h
  obtain ⟨l, b, xs, zs, h1, h2, h3, h4, h5, q⟩ := h
  exact op_catN pins s σ H x y v u Q I rx ry ⟨l, b, xs, zs, h1, h2, h3, h4, h5, fun p np ns => q p _ (same_new np) np ns upd_same⟩
end
/-- what an error of the i-th class keeps, made of x and y -/
def fl (x y : V) : Nat → Option (List (Str × V))
  | 0 => some [("line", x)]
  | 1 => some [("error", x)]
  | 2 => some [("word", x)]
  | 3 => some [("query", x)]
  | 4 => some [("error", x)]
  | 5 => some [("error", x)]
  | 6 => some [("room", x)]
  | 7 => some [("word", x)]
  | 8 => some [("fault", x)]
  | 9 => some [("index", x)]
  | 10 => some [("index", x)]
  | 11 => some [("index", x)]
  | 12 => some [("version", x)]
  | 13 => some [("many", y), ("first", x)]
  | 14 => some [("evidence", y), ("reason", x)]
  | _ => none
def EAt (c : Nat → Addr) (x y : V) (H : Hp) (i : Nat) (v : V) : Prop := ∃ a, v = .ref a ∧ match fl x y i with
  | some fs => ErrF H a (c i) fs
  | none => H a = some (ExO (.ref (c i)) a)
def AllE (c : Nat → Addr) (x y : V) (H : Hp) : Nat → List V → Prop
  | _, [] => True
  | i, v :: vs => EAt c x y H i v ∧ AllE c x y H (i + 1) vs
section
variable {c : Nat → Addr} {x y : V} {H H' : Hp}
theorem EAt.same {i : Nat} {v : V} (s : Same H H') (h : EAt c x y H i v) : EAt c x y H' i v := by
  obtain ⟨a, e, r⟩ := h
  refine ⟨a, e, ?_⟩
  cases q : fl x y i with
  | some fs =>
    rw [q] at r
    exact r.same s
  | none =>
    rw [q] at r
    exact s _ _ r
theorem AllE.same (s : Same H H') : ∀ {vs : List V} {i : Nat}, AllE c x y H i vs → AllE c x y H' i vs
  | [], _, _ => True.intro
  | _ :: _, _, h => ⟨h.1.same s, AllE.same s h.2⟩
theorem AllE.at : ∀ {vs : List V} {i j : Nat}, AllE c x y H i vs → j < vs.length → ∃ v, vs[j]? = some v ∧ EAt c x y H (i + j) v
  | [], _, _, _, l => absurd l (Nat.not_lt_zero _)
  | v :: _, _, 0, h, _ => ⟨v, rfl, h.1⟩
  | _ :: vs, i, j + 1, h, l => by
    obtain ⟨v, e, r⟩ := AllE.at (j := j) h.2 (Nat.lt_of_succ_lt_succ l)
    refine ⟨v, by simpa using e, ?_⟩
    rw [show i + (j + 1) = i + 1 + j by omega]
    exact r
theorem AllE.f {vs : List V} {j : Nat} {fs : List (Str × V)} (h : AllE c x y H 0 vs) (l : j < vs.length) (e : fl x y j = some fs) : ∃ a, vs[j]? = some (.ref a) ∧ ErrF H a (c j) fs := by
  obtain ⟨v, h1, a, h2, h3⟩ := h.at l
  subst h2
  rw [Nat.zero_add, e] at h3
  exact ⟨a, h1, h3⟩
theorem EAt.err {i : Nat} {v : V} (h : EAt c x y H i v) : ∃ a, v = .ref a ∧ ErrA H a (c i) := by
  obtain ⟨a, e, r⟩ := h
  refine ⟨a, e, ?_⟩
  cases q : fl x y i with
  | some fs =>
    rw [q] at r
    exact .inl ⟨fs, r⟩
  | none =>
    rw [q] at r
    exact .inr r
end
/-- the classes as they are made -/
structure Ms (P : Program) (w : World) (K : PySem.W.Frag) (mg : Str → Option Value) (base : Heap) (c : Nat → Addr) : Prop where
  m0 : C1 P w K mg base "BadText" (c 0) "line"
  m1 : C1 P w K mg base "BadPlan" (c 1) "error"
  m2 : C1 P w K mg base "BadWord" (c 2) "word"
  m3 : C1 P w K mg base "BadQuery" (c 3) "query"
  m4 : C1 P w K mg base "BadLine" (c 4) "error"
  m5 : C1 P w K mg base "BadComp" (c 5) "error"
  m6 : C1 P w K mg base "BadRoom" (c 6) "room"
  m7 : C1 P w K mg base "Outside" (c 7) "word"
  m8 : C1 P w K mg base "Faulty" (c 8) "fault"
  m9 : C1 P w K mg base "BadEdit" (c 9) "index"
  m10 : C1 P w K mg base "Rejected" (c 10) "index"
  m11 : C1 P w K mg base "NoWord" (c 11) "index"
  m12 : C1 P w K mg base "NoVersion" (c 12) "version"
  m13 : C2 P w K mg base "BadPage" (c 13) "first" "many"
  m14 : C2 P w K mg base "Unsure" (c 14) "reason" "evidence"
  m15 : C0 K mg "Crowded" (c 15)
  m16 : C0 K mg "Full" (c 16)
  m17 : C0 K mg "Unlike" (c 17)
  m18 : C0 K mg "TooGreat" (c 18)
  m19 : C0 K mg "Busy" (c 19)
  m20 : C0 K mg "TooManyEdits" (c 20)
  m21 : C0 K mg "NothingToUndo" (c 21)
  m22 : C0 K mg "NothingToRedo" (c 22)
  m23 : C0 K mg "BadEdits" (c 23)
section
variable {P : Program} {w : World} {K : PySem.W.Frag} {mg : Str → Option Value} {base : Heap}
theorem scAll : FnScope ["_law_one_here", "_law_other", "_law_found"] ["_law_one_here", "_law_other"] (defScope sAll) := ⟨rfl, rfl, rfl, by decide +kernel, rfl, by decide +kernel, by decide +kernel⟩
theorem scNamed : FnScope ["_law_one_here", "_law_other", "_law_found"] ["_law_one_here", "_law_other"] (defScope sNamed) := ⟨rfl, rfl, rfl, by decide +kernel, rfl, by decide +kernel, by decide +kernel⟩
theorem scFields : FnScope ["_law_some", "_law_found"] ["_law_some"] (defScope sFields) := ⟨rfl, rfl, rfl, by decide +kernel, rfl, by decide +kernel, by decide +kernel⟩
/-- n errors, of the first n classes -/
def spAll (c : Nat → Addr) (n : Nat) : Sp := fun vs H Q _ => ∃ x y, vs = [x, y] ∧ ∀ (H' : Hp) (p : Addr) (es : List V), Same H H' → H p = none → H' p = some (.lst es) → es.length = n → AllE c x y H' 0 es → Q (.ref p) H'
theorem ok_all {f : Addr} {fd : FuncData} {c : Nat → Addr} (F : Fun K "_law_all" "_law_all" sAll f fd) (M : Ms P w K mg base c) : FnOk P w K mg base CX0 3 f fd ["_law_one_here", "_law_other"] (spAll c 24) := by
  refine F.ok scAll (fun vs H Q E h => ?_) (fun cdv A outer s H vs Q E hr h => ?_)
  · obtain ⟨x, y, rfl, _⟩ := h
    rfl
  · obtain ⟨x, y, rfl, k⟩ := h
    refine ⟨_, pss_cons (ps_set (i := 2) scAll.nd rfl (.inl rfl) (pe_lstA (pa_cons (pe_c1 M.m0 hr (by rfl) (pa_cons (pv 0) pa_nil)) (pa_cons (pe_c1 M.m1 hr (by rfl) (pa_cons (pv 0) pa_nil)) (pa_cons (pe_c1 M.m2 hr (by rfl) (pa_cons (pv 0) pa_nil)) (pa_cons (pe_c1 M.m3 hr (by rfl) (pa_cons (pv 0) pa_nil)) (pa_cons (pe_c1 M.m4 hr (by rfl) (pa_cons (pv 0) pa_nil)) (pa_cons (pe_c1 M.m5 hr (by rfl) (pa_cons (pv 0) pa_nil)) (pa_cons (pe_c1 M.m6 hr (by rfl) (pa_cons (pv 0) pa_nil)) pa_nil))))))))) (pss_cons (ps_set (i := 2) scAll.nd rfl (.inl rfl) (pe_op op_catA' (pv 2) (pe_lstA (pa_cons (pe_c1 M.m7 hr (by rfl) (pa_cons (pv 0) pa_nil)) (pa_cons (pe_c1 M.m8 hr (by rfl) (pa_cons (pv 0) pa_nil)) (pa_cons (pe_c1 M.m9 hr (by rfl) (pa_cons (pv 0) pa_nil)) (pa_cons (pe_c1 M.m10 hr (by rfl) (pa_cons (pv 0) pa_nil)) (pa_cons (pe_c1 M.m11 hr (by rfl) (pa_cons (pv 0) pa_nil)) (pa_cons (pe_c1 M.m12 hr (by rfl) (pa_cons (pv 0) pa_nil)) pa_nil))))))))) (pss_cons (ps_set (i := 2) scAll.nd rfl (.inl rfl) (pe_op op_catA' (pv 2) (pe_lstA (pa_cons (pe_c2 M.m13 hr (by rfl) (pa_cons (pv 0) (pa_cons (pv 1) pa_nil))) (pa_cons (pe_c2 M.m14 hr (by rfl) (pa_cons (pv 0) (pa_cons (pv 1) pa_nil))) (pa_cons (pe_c0 M.m15 (by rfl)) (pa_cons (pe_c0 M.m16 (by rfl)) (pa_cons (pe_c0 M.m17 (by rfl)) (pa_cons (pe_c0 M.m18 (by rfl)) (pa_cons (pe_c0 M.m19 (by rfl)) pa_nil)))))))))) (pss_one (ps_ret (pe_op op_catA' (pv 2) (pe_lstA (pa_cons (pe_c0 M.m20 (by rfl)) (pa_cons (pe_c0 M.m21 (by rfl)) (pa_cons (pe_c0 M.m22 (by rfl)) (pa_cons (pe_c0 M.m23 (by rfl)) pa_nil)))))))))), ?_⟩
    refine ⟨_, rfl, rfl, fun a0 G0 s0 n0 r0 => ?_⟩
    refine ⟨_, rfl, rfl, fun a1 G1 s1 n1 r1 => ?_⟩
    refine ⟨_, rfl, rfl, fun a2 G2 s2 n2 r2 => ?_⟩
    refine ⟨_, rfl, rfl, fun a3 G3 s3 n3 r3 => ?_⟩
    refine ⟨_, rfl, rfl, fun a4 G4 s4 n4 r4 => ?_⟩
    refine ⟨_, rfl, rfl, fun a5 G5 s5 n5 r5 => ?_⟩
    refine ⟨_, rfl, rfl, fun a6 G6 s6 n6 r6 => ?_⟩
    refine ⟨by show 7 ≤ sizeLine; decide, fun p0 D0 t0 z0 y0 l0 => ?_⟩
    have lq := l0
    refine ⟨_, rfl, ?_⟩
    refine ⟨_, rfl, rfl, fun a7 G7 s7 n7 r7 => ?_⟩
    refine ⟨_, rfl, rfl, fun a8 G8 s8 n8 r8 => ?_⟩
    refine ⟨_, rfl, rfl, fun a9 G9 s9 n9 r9 => ?_⟩
    refine ⟨_, rfl, rfl, fun a10 G10 s10 n10 r10 => ?_⟩
    refine ⟨_, rfl, rfl, fun a11 G11 s11 n11 r11 => ?_⟩
    refine ⟨_, rfl, rfl, fun a12 G12 s12 n12 r12 => ?_⟩
    refine ⟨by show 6 ≤ sizeLine; decide, fun p1 D1 t1 z1 y1 l1 => ?_⟩
    have lp := (s7.trans (s8.trans (s9.trans (s10.trans (s11.trans (s12.trans (t1))))))) _ _ lq
    refine ⟨_, _, _, _, rfl, rfl, lp, l1, by show 13 ≤ sizeLine; decide, fun q1 E1 v1 x1 w1 lq => ?_⟩
    refine ⟨_, rfl, ?_⟩
    refine ⟨_, rfl, _, rfl, rfl, fun a13 G13 s13 n13 r13 => ?_⟩
    refine ⟨_, rfl, _, rfl, rfl, fun a14 G14 s14 n14 r14 => ?_⟩
    intro a15 G15 s15 n15 r15
    intro a16 G16 s16 n16 r16
    intro a17 G17 s17 n17 r17
    intro a18 G18 s18 n18 r18
    intro a19 G19 s19 n19 r19
    refine ⟨by show 7 ≤ sizeLine; decide, fun p2 D2 t2 z2 y2 l2 => ?_⟩
    have lp := (s13.trans (s14.trans (s15.trans (s16.trans (s17.trans (s18.trans (s19.trans (t2)))))))) _ _ lq
    refine ⟨_, _, _, _, rfl, rfl, lp, l2, by show 20 ≤ sizeLine; decide, fun q2 E2 v2 x2 w2 lq => ?_⟩
    refine ⟨_, rfl, ?_⟩
    intro a20 G20 s20 n20 r20
    intro a21 G21 s21 n21 r21
    intro a22 G22 s22 n22 r22
    intro a23 G23 s23 n23 r23
    refine ⟨by show 4 ≤ sizeLine; decide, fun p3 D3 t3 z3 y3 l3 => ?_⟩
    have lp := (s20.trans (s21.trans (s22.trans (s23.trans (t3))))) _ _ lq
    refine ⟨_, _, _, _, rfl, rfl, lp, l3, by show 24 ≤ sizeLine; decide, fun q3 E3 v3 x3 w3 lq => ?_⟩
    have u := (s0.trans (s1.trans (s2.trans (s3.trans (s4.trans (s5.trans (s6.trans (t0.trans (s7.trans (s8.trans (s9.trans (s10.trans (s11.trans (s12.trans (t1.trans (v1.trans (s13.trans (s14.trans (s15.trans (s16.trans (s17.trans (s18.trans (s19.trans (t2.trans (v2.trans (s20.trans (s21.trans (s22.trans (s23.trans (t3.trans (v3)))))))))))))))))))))))))))))))
    refine k _ q3 _ u (((s0.trans (s1.trans (s2.trans (s3.trans (s4.trans (s5.trans (s6.trans (t0.trans (s7.trans (s8.trans (s9.trans (s10.trans (s11.trans (s12.trans (t1.trans (v1.trans (s13.trans (s14.trans (s15.trans (s16.trans (s17.trans (s18.trans (s19.trans (t2.trans (v2.trans (s20.trans (s21.trans (s22.trans (s23.trans (t3))))))))))))))))))))))))))))))).free x3) lq rfl ?_
    exact ⟨⟨a0, rfl, r0.same ((s1.trans (s2.trans (s3.trans (s4.trans (s5.trans (s6.trans (t0.trans (s7.trans (s8.trans (s9.trans (s10.trans (s11.trans (s12.trans (t1.trans (v1.trans (s13.trans (s14.trans (s15.trans (s16.trans (s17.trans (s18.trans (s19.trans (t2.trans (v2.trans (s20.trans (s21.trans (s22.trans (s23.trans (t3.trans (v3)))))))))))))))))))))))))))))))⟩, ⟨a1, rfl, r1.same ((s2.trans (s3.trans (s4.trans (s5.trans (s6.trans (t0.trans (s7.trans (s8.trans (s9.trans (s10.trans (s11.trans (s12.trans (t1.trans (v1.trans (s13.trans (s14.trans (s15.trans (s16.trans (s17.trans (s18.trans (s19.trans (t2.trans (v2.trans (s20.trans (s21.trans (s22.trans (s23.trans (t3.trans (v3))))))))))))))))))))))))))))))⟩, ⟨a2, rfl, r2.same ((s3.trans (s4.trans (s5.trans (s6.trans (t0.trans (s7.trans (s8.trans (s9.trans (s10.trans (s11.trans (s12.trans (t1.trans (v1.trans (s13.trans (s14.trans (s15.trans (s16.trans (s17.trans (s18.trans (s19.trans (t2.trans (v2.trans (s20.trans (s21.trans (s22.trans (s23.trans (t3.trans (v3)))))))))))))))))))))))))))))⟩, ⟨a3, rfl, r3.same ((s4.trans (s5.trans (s6.trans (t0.trans (s7.trans (s8.trans (s9.trans (s10.trans (s11.trans (s12.trans (t1.trans (v1.trans (s13.trans (s14.trans (s15.trans (s16.trans (s17.trans (s18.trans (s19.trans (t2.trans (v2.trans (s20.trans (s21.trans (s22.trans (s23.trans (t3.trans (v3))))))))))))))))))))))))))))⟩, ⟨a4, rfl, r4.same ((s5.trans (s6.trans (t0.trans (s7.trans (s8.trans (s9.trans (s10.trans (s11.trans (s12.trans (t1.trans (v1.trans (s13.trans (s14.trans (s15.trans (s16.trans (s17.trans (s18.trans (s19.trans (t2.trans (v2.trans (s20.trans (s21.trans (s22.trans (s23.trans (t3.trans (v3)))))))))))))))))))))))))))⟩, ⟨a5, rfl, r5.same ((s6.trans (t0.trans (s7.trans (s8.trans (s9.trans (s10.trans (s11.trans (s12.trans (t1.trans (v1.trans (s13.trans (s14.trans (s15.trans (s16.trans (s17.trans (s18.trans (s19.trans (t2.trans (v2.trans (s20.trans (s21.trans (s22.trans (s23.trans (t3.trans (v3))))))))))))))))))))))))))⟩, ⟨a6, rfl, r6.same ((t0.trans (s7.trans (s8.trans (s9.trans (s10.trans (s11.trans (s12.trans (t1.trans (v1.trans (s13.trans (s14.trans (s15.trans (s16.trans (s17.trans (s18.trans (s19.trans (t2.trans (v2.trans (s20.trans (s21.trans (s22.trans (s23.trans (t3.trans (v3)))))))))))))))))))))))))⟩, ⟨a7, rfl, r7.same ((s8.trans (s9.trans (s10.trans (s11.trans (s12.trans (t1.trans (v1.trans (s13.trans (s14.trans (s15.trans (s16.trans (s17.trans (s18.trans (s19.trans (t2.trans (v2.trans (s20.trans (s21.trans (s22.trans (s23.trans (t3.trans (v3)))))))))))))))))))))))⟩, ⟨a8, rfl, r8.same ((s9.trans (s10.trans (s11.trans (s12.trans (t1.trans (v1.trans (s13.trans (s14.trans (s15.trans (s16.trans (s17.trans (s18.trans (s19.trans (t2.trans (v2.trans (s20.trans (s21.trans (s22.trans (s23.trans (t3.trans (v3))))))))))))))))))))))⟩, ⟨a9, rfl, r9.same ((s10.trans (s11.trans (s12.trans (t1.trans (v1.trans (s13.trans (s14.trans (s15.trans (s16.trans (s17.trans (s18.trans (s19.trans (t2.trans (v2.trans (s20.trans (s21.trans (s22.trans (s23.trans (t3.trans (v3)))))))))))))))))))))⟩, ⟨a10, rfl, r10.same ((s11.trans (s12.trans (t1.trans (v1.trans (s13.trans (s14.trans (s15.trans (s16.trans (s17.trans (s18.trans (s19.trans (t2.trans (v2.trans (s20.trans (s21.trans (s22.trans (s23.trans (t3.trans (v3))))))))))))))))))))⟩, ⟨a11, rfl, r11.same ((s12.trans (t1.trans (v1.trans (s13.trans (s14.trans (s15.trans (s16.trans (s17.trans (s18.trans (s19.trans (t2.trans (v2.trans (s20.trans (s21.trans (s22.trans (s23.trans (t3.trans (v3)))))))))))))))))))⟩, ⟨a12, rfl, r12.same ((t1.trans (v1.trans (s13.trans (s14.trans (s15.trans (s16.trans (s17.trans (s18.trans (s19.trans (t2.trans (v2.trans (s20.trans (s21.trans (s22.trans (s23.trans (t3.trans (v3))))))))))))))))))⟩, ⟨a13, rfl, r13.same ((s14.trans (s15.trans (s16.trans (s17.trans (s18.trans (s19.trans (t2.trans (v2.trans (s20.trans (s21.trans (s22.trans (s23.trans (t3.trans (v3)))))))))))))))⟩, ⟨a14, rfl, r14.same ((s15.trans (s16.trans (s17.trans (s18.trans (s19.trans (t2.trans (v2.trans (s20.trans (s21.trans (s22.trans (s23.trans (t3.trans (v3))))))))))))))⟩, ⟨a15, rfl, ((s16.trans (s17.trans (s18.trans (s19.trans (t2.trans (v2.trans (s20.trans (s21.trans (s22.trans (s23.trans (t3.trans (v3))))))))))))) _ _ r15⟩, ⟨a16, rfl, ((s17.trans (s18.trans (s19.trans (t2.trans (v2.trans (s20.trans (s21.trans (s22.trans (s23.trans (t3.trans (v3)))))))))))) _ _ r16⟩, ⟨a17, rfl, ((s18.trans (s19.trans (t2.trans (v2.trans (s20.trans (s21.trans (s22.trans (s23.trans (t3.trans (v3))))))))))) _ _ r17⟩, ⟨a18, rfl, ((s19.trans (t2.trans (v2.trans (s20.trans (s21.trans (s22.trans (s23.trans (t3.trans (v3)))))))))) _ _ r18⟩, ⟨a19, rfl, ((t2.trans (v2.trans (s20.trans (s21.trans (s22.trans (s23.trans (t3.trans (v3))))))))) _ _ r19⟩, ⟨a20, rfl, ((s21.trans (s22.trans (s23.trans (t3.trans (v3)))))) _ _ r20⟩, ⟨a21, rfl, ((s22.trans (s23.trans (t3.trans (v3))))) _ _ r21⟩, ⟨a22, rfl, ((s23.trans (t3.trans (v3)))) _ _ r22⟩, ⟨a23, rfl, ((t3.trans (v3))) _ _ r23⟩, True.intro⟩
theorem ok_named {f : Addr} {fd : FuncData} {c : Nat → Addr} (F : Fun K "_law_named" "_law_named" sNamed f fd) (M : Ms P w K mg base c) : FnOk P w K mg base CX0 3 f fd ["_law_one_here", "_law_other"] (spAll c 15) := by
  refine F.ok scNamed (fun vs H Q E h => ?_) (fun cdv A outer s H vs Q E hr h => ?_)
  · obtain ⟨x, y, rfl, _⟩ := h
    rfl
  · obtain ⟨x, y, rfl, k⟩ := h
    refine ⟨_, pss_cons (ps_set (i := 2) scNamed.nd rfl (.inl rfl) (pe_lstA (pa_cons (pe_k1 M.m0 hr (by rfl) (pk_cons (pv 0) pk_nil)) (pa_cons (pe_k1 M.m1 hr (by rfl) (pk_cons (pv 0) pk_nil)) (pa_cons (pe_k1 M.m2 hr (by rfl) (pk_cons (pv 0) pk_nil)) (pa_cons (pe_k1 M.m3 hr (by rfl) (pk_cons (pv 0) pk_nil)) (pa_cons (pe_k1 M.m4 hr (by rfl) (pk_cons (pv 0) pk_nil)) pa_nil))))))) (pss_cons (ps_set (i := 2) scNamed.nd rfl (.inl rfl) (pe_op op_catA' (pv 2) (pe_lstA (pa_cons (pe_k1 M.m5 hr (by rfl) (pk_cons (pv 0) pk_nil)) (pa_cons (pe_k1 M.m6 hr (by rfl) (pk_cons (pv 0) pk_nil)) (pa_cons (pe_k1 M.m7 hr (by rfl) (pk_cons (pv 0) pk_nil)) (pa_cons (pe_k1 M.m8 hr (by rfl) (pk_cons (pv 0) pk_nil)) (pa_cons (pe_k1 M.m9 hr (by rfl) (pk_cons (pv 0) pk_nil)) pa_nil)))))))) (pss_cons (ps_set (i := 2) scNamed.nd rfl (.inl rfl) (pe_op op_catA' (pv 2) (pe_lstA (pa_cons (pe_k1 M.m10 hr (by rfl) (pk_cons (pv 0) pk_nil)) (pa_cons (pe_k1 M.m11 hr (by rfl) (pk_cons (pv 0) pk_nil)) (pa_cons (pe_k1 M.m12 hr (by rfl) (pk_cons (pv 0) pk_nil)) (pa_cons (pe_k2 M.m13 hr (by rfl) (pk_cons (pv 1) (pk_cons (pv 0) pk_nil))) pa_nil))))))) (pss_one (ps_ret (pe_op op_catA' (pv 2) (pe_lstA (pa_cons (pe_k2 M.m14 hr (by rfl) (pk_cons (pv 1) (pk_cons (pv 0) pk_nil))) pa_nil))))))), ?_⟩
    refine ⟨_, rfl, rfl, fun a0 G0 s0 n0 r0 => ?_⟩
    refine ⟨_, rfl, rfl, fun a1 G1 s1 n1 r1 => ?_⟩
    refine ⟨_, rfl, rfl, fun a2 G2 s2 n2 r2 => ?_⟩
    refine ⟨_, rfl, rfl, fun a3 G3 s3 n3 r3 => ?_⟩
    refine ⟨_, rfl, rfl, fun a4 G4 s4 n4 r4 => ?_⟩
    refine ⟨by show 5 ≤ sizeLine; decide, fun p0 D0 t0 z0 y0 l0 => ?_⟩
    have lq := l0
    refine ⟨_, rfl, ?_⟩
    refine ⟨_, rfl, rfl, fun a5 G5 s5 n5 r5 => ?_⟩
    refine ⟨_, rfl, rfl, fun a6 G6 s6 n6 r6 => ?_⟩
    refine ⟨_, rfl, rfl, fun a7 G7 s7 n7 r7 => ?_⟩
    refine ⟨_, rfl, rfl, fun a8 G8 s8 n8 r8 => ?_⟩
    refine ⟨_, rfl, rfl, fun a9 G9 s9 n9 r9 => ?_⟩
    refine ⟨by show 5 ≤ sizeLine; decide, fun p1 D1 t1 z1 y1 l1 => ?_⟩
    have lp := (s5.trans (s6.trans (s7.trans (s8.trans (s9.trans (t1)))))) _ _ lq
    refine ⟨_, _, _, _, rfl, rfl, lp, l1, by show 10 ≤ sizeLine; decide, fun q1 E1 v1 x1 w1 lq => ?_⟩
    refine ⟨_, rfl, ?_⟩
    refine ⟨_, rfl, rfl, fun a10 G10 s10 n10 r10 => ?_⟩
    refine ⟨_, rfl, rfl, fun a11 G11 s11 n11 r11 => ?_⟩
    refine ⟨_, rfl, rfl, fun a12 G12 s12 n12 r12 => ?_⟩
    refine ⟨_, rfl, _, rfl, rfl, fun a13 G13 s13 n13 r13 => ?_⟩
    refine ⟨by show 4 ≤ sizeLine; decide, fun p2 D2 t2 z2 y2 l2 => ?_⟩
    have lp := (s10.trans (s11.trans (s12.trans (s13.trans (t2))))) _ _ lq
    refine ⟨_, _, _, _, rfl, rfl, lp, l2, by show 14 ≤ sizeLine; decide, fun q2 E2 v2 x2 w2 lq => ?_⟩
    refine ⟨_, rfl, ?_⟩
    refine ⟨_, rfl, _, rfl, rfl, fun a14 G14 s14 n14 r14 => ?_⟩
    refine ⟨by show 1 ≤ sizeLine; decide, fun p3 D3 t3 z3 y3 l3 => ?_⟩
    have lp := (s14.trans (t3)) _ _ lq
    refine ⟨_, _, _, _, rfl, rfl, lp, l3, by show 15 ≤ sizeLine; decide, fun q3 E3 v3 x3 w3 lq => ?_⟩
    have u := (s0.trans (s1.trans (s2.trans (s3.trans (s4.trans (t0.trans (s5.trans (s6.trans (s7.trans (s8.trans (s9.trans (t1.trans (v1.trans (s10.trans (s11.trans (s12.trans (s13.trans (t2.trans (v2.trans (s14.trans (t3.trans (v3))))))))))))))))))))))
    refine k _ q3 _ u (((s0.trans (s1.trans (s2.trans (s3.trans (s4.trans (t0.trans (s5.trans (s6.trans (s7.trans (s8.trans (s9.trans (t1.trans (v1.trans (s10.trans (s11.trans (s12.trans (s13.trans (t2.trans (v2.trans (s14.trans (t3)))))))))))))))))))))).free x3) lq rfl ?_
    exact ⟨⟨a0, rfl, r0.same ((s1.trans (s2.trans (s3.trans (s4.trans (t0.trans (s5.trans (s6.trans (s7.trans (s8.trans (s9.trans (t1.trans (v1.trans (s10.trans (s11.trans (s12.trans (s13.trans (t2.trans (v2.trans (s14.trans (t3.trans (v3))))))))))))))))))))))⟩, ⟨a1, rfl, r1.same ((s2.trans (s3.trans (s4.trans (t0.trans (s5.trans (s6.trans (s7.trans (s8.trans (s9.trans (t1.trans (v1.trans (s10.trans (s11.trans (s12.trans (s13.trans (t2.trans (v2.trans (s14.trans (t3.trans (v3)))))))))))))))))))))⟩, ⟨a2, rfl, r2.same ((s3.trans (s4.trans (t0.trans (s5.trans (s6.trans (s7.trans (s8.trans (s9.trans (t1.trans (v1.trans (s10.trans (s11.trans (s12.trans (s13.trans (t2.trans (v2.trans (s14.trans (t3.trans (v3))))))))))))))))))))⟩, ⟨a3, rfl, r3.same ((s4.trans (t0.trans (s5.trans (s6.trans (s7.trans (s8.trans (s9.trans (t1.trans (v1.trans (s10.trans (s11.trans (s12.trans (s13.trans (t2.trans (v2.trans (s14.trans (t3.trans (v3)))))))))))))))))))⟩, ⟨a4, rfl, r4.same ((t0.trans (s5.trans (s6.trans (s7.trans (s8.trans (s9.trans (t1.trans (v1.trans (s10.trans (s11.trans (s12.trans (s13.trans (t2.trans (v2.trans (s14.trans (t3.trans (v3))))))))))))))))))⟩, ⟨a5, rfl, r5.same ((s6.trans (s7.trans (s8.trans (s9.trans (t1.trans (v1.trans (s10.trans (s11.trans (s12.trans (s13.trans (t2.trans (v2.trans (s14.trans (t3.trans (v3))))))))))))))))⟩, ⟨a6, rfl, r6.same ((s7.trans (s8.trans (s9.trans (t1.trans (v1.trans (s10.trans (s11.trans (s12.trans (s13.trans (t2.trans (v2.trans (s14.trans (t3.trans (v3)))))))))))))))⟩, ⟨a7, rfl, r7.same ((s8.trans (s9.trans (t1.trans (v1.trans (s10.trans (s11.trans (s12.trans (s13.trans (t2.trans (v2.trans (s14.trans (t3.trans (v3))))))))))))))⟩, ⟨a8, rfl, r8.same ((s9.trans (t1.trans (v1.trans (s10.trans (s11.trans (s12.trans (s13.trans (t2.trans (v2.trans (s14.trans (t3.trans (v3)))))))))))))⟩, ⟨a9, rfl, r9.same ((t1.trans (v1.trans (s10.trans (s11.trans (s12.trans (s13.trans (t2.trans (v2.trans (s14.trans (t3.trans (v3))))))))))))⟩, ⟨a10, rfl, r10.same ((s11.trans (s12.trans (s13.trans (t2.trans (v2.trans (s14.trans (t3.trans (v3)))))))))⟩, ⟨a11, rfl, r11.same ((s12.trans (s13.trans (t2.trans (v2.trans (s14.trans (t3.trans (v3))))))))⟩, ⟨a12, rfl, r12.same ((s13.trans (t2.trans (v2.trans (s14.trans (t3.trans (v3)))))))⟩, ⟨a13, rfl, r13.same ((t2.trans (v2.trans (s14.trans (t3.trans (v3))))))⟩, ⟨a14, rfl, r14.same ((t3.trans (v3)))⟩, True.intro⟩
theorem look1 {f : Str} {x : V} : List.lookup f [(f, x)] = some x := by rw [lookup_put, if_pos rfl]
theorem look2 {f g : Str} {x y : V} : List.lookup f [(f, x), (g, y)] = some x := by rw [lookup_put, if_pos rfl]
theorem look3 {f g : Str} {x y : V} (h : f ≠ g) : List.lookup f [(g, y), (f, x)] = some x := by rw [lookup_put, if_neg h, look1]
def due (x y : V) : List V := [x, x, x, x, x, x, x, x, x, x, x, x, x, x, x, y, y]
def spFields (c : Nat → Addr) : Sp := fun vs H Q _ => ∃ (l : Addr) (es : List V) (x y : V), vs = [.ref l] ∧ H l = some (.lst es) ∧ 15 ≤ es.length ∧ AllE c x y H 0 es ∧
  ∀ (H' : Hp) (p : Addr), Same H H' → H p = none → p ≠ sysModules → H' p = some (.lst (due x y)) → Q (.ref p) H'
theorem ok_fields {f : Addr} {fd : FuncData} {c : Nat → Addr} (F : Fun K "_law_fields" "_law_fields" sFields f fd) (M : Ms P w K mg base c) : FnOk P w K mg base CX0 1 f fd ["_law_some"] (spFields c) := by
  refine F.ok scFields (fun vs H Q E h => ?_) (fun cdv A outer s H vs Q E hr h => ?_)
  · obtain ⟨l, es, x, y, rfl, _⟩ := h
    rfl
  · obtain ⟨l, es, x, y, rfl, hl, hz, all, k⟩ := h
    refine ⟨_, pss_cons (ps_set (i := 1) scFields.nd rfl (.inl rfl) (pe_lstA (pa_cons (pe_ef (pe_ix ix_list (pv 0) pe_int (fun _ _ => rfl))) (pa_cons (pe_ef (pe_ix ix_list (pv 0) pe_int (fun _ _ => rfl))) (pa_cons (pe_ef (pe_ix ix_list (pv 0) pe_int (fun _ _ => rfl))) (pa_cons (pe_ef (pe_ix ix_list (pv 0) pe_int (fun _ _ => rfl))) (pa_cons (pe_ef (pe_ix ix_list (pv 0) pe_int (fun _ _ => rfl))) (pa_cons (pe_ef (pe_ix ix_list (pv 0) pe_int (fun _ _ => rfl))) (pa_cons (pe_ef (pe_ix ix_list (pv 0) pe_int (fun _ _ => rfl))) pa_nil))))))))) (pss_cons (ps_set (i := 1) scFields.nd rfl (.inl rfl) (pe_op op_catA' (pv 1) (pe_lstA (pa_cons (pe_ef (pe_ix ix_list (pv 0) pe_int (fun _ _ => rfl))) (pa_cons (pe_ef (pe_ix ix_list (pv 0) pe_int (fun _ _ => rfl))) (pa_cons (pe_ef (pe_ix ix_list (pv 0) pe_int (fun _ _ => rfl))) (pa_cons (pe_ef (pe_ix ix_list (pv 0) pe_int (fun _ _ => rfl))) (pa_cons (pe_ef (pe_ix ix_list (pv 0) pe_int (fun _ _ => rfl))) (pa_cons (pe_ef (pe_ix ix_list (pv 0) pe_int (fun _ _ => rfl))) pa_nil))))))))) (pss_one (ps_ret (pe_op op_catA' (pv 1) (pe_lstA (pa_cons (pe_ef (pe_ix ix_list (pv 0) pe_int (fun _ _ => rfl))) (pa_cons (pe_ef (pe_ix ix_list (pv 0) pe_int (fun _ _ => rfl))) (pa_cons (pe_ef (pe_ix ix_list (pv 0) pe_int (fun _ _ => rfl))) (pa_cons (pe_ef (pe_ix ix_list (pv 0) pe_int (fun _ _ => rfl))) pa_nil))))))))), ?_⟩
    obtain ⟨a0, h0, r0⟩ := all.f (j := 0) (by omega) rfl
    obtain ⟨a1, h1, r1⟩ := all.f (j := 1) (by omega) rfl
    obtain ⟨a2, h2, r2⟩ := all.f (j := 2) (by omega) rfl
    obtain ⟨a3, h3, r3⟩ := all.f (j := 3) (by omega) rfl
    obtain ⟨a4, h4, r4⟩ := all.f (j := 4) (by omega) rfl
    obtain ⟨a5, h5, r5⟩ := all.f (j := 5) (by omega) rfl
    obtain ⟨a6, h6, r6⟩ := all.f (j := 6) (by omega) rfl
    obtain ⟨a7, h7, r7⟩ := all.f (j := 7) (by omega) rfl
    obtain ⟨a8, h8, r8⟩ := all.f (j := 8) (by omega) rfl
    obtain ⟨a9, h9, r9⟩ := all.f (j := 9) (by omega) rfl
    obtain ⟨a10, h10, r10⟩ := all.f (j := 10) (by omega) rfl
    obtain ⟨a11, h11, r11⟩ := all.f (j := 11) (by omega) rfl
    obtain ⟨a12, h12, r12⟩ := all.f (j := 12) (by omega) rfl
    obtain ⟨a13, h13, r13⟩ := all.f (j := 13) (by omega) rfl
    obtain ⟨a14, h14, r14⟩ := all.f (j := 14) (by omega) rfl
    refine ⟨_, rfl, l, es, 0, .ref a0, rfl, rfl, SqL.of hl, atI_nat (j := 0) h0, a0, c 0, _, _, rfl, M.m0.T, M.m0.no, r0, look1, ?_⟩
    refine ⟨_, rfl, l, es, 1, .ref a1, rfl, rfl, SqL.of hl, atI_nat (j := 1) h1, a1, c 1, _, _, rfl, M.m1.T, M.m1.no, r1, look1, ?_⟩
    refine ⟨_, rfl, l, es, 2, .ref a2, rfl, rfl, SqL.of hl, atI_nat (j := 2) h2, a2, c 2, _, _, rfl, M.m2.T, M.m2.no, r2, look1, ?_⟩
    refine ⟨_, rfl, l, es, 3, .ref a3, rfl, rfl, SqL.of hl, atI_nat (j := 3) h3, a3, c 3, _, _, rfl, M.m3.T, M.m3.no, r3, look1, ?_⟩
    refine ⟨_, rfl, l, es, 4, .ref a4, rfl, rfl, SqL.of hl, atI_nat (j := 4) h4, a4, c 4, _, _, rfl, M.m4.T, M.m4.no, r4, look1, ?_⟩
    refine ⟨_, rfl, l, es, 5, .ref a5, rfl, rfl, SqL.of hl, atI_nat (j := 5) h5, a5, c 5, _, _, rfl, M.m5.T, M.m5.no, r5, look1, ?_⟩
    refine ⟨_, rfl, l, es, 6, .ref a6, rfl, rfl, SqL.of hl, atI_nat (j := 6) h6, a6, c 6, _, _, rfl, M.m6.T, M.m6.no, r6, look1, ?_⟩
    refine ⟨by show 7 ≤ sizeLine; decide, fun p0 D0 t0 z0 y0 l0 => ?_⟩
    have S0 := t0
    have lq := l0
    refine ⟨_, rfl, ?_⟩
    refine ⟨_, rfl, l, es, 7, .ref a7, rfl, rfl, SqL.of (S0 _ _ hl), atI_nat (j := 7) h7, a7, c 7, _, _, rfl, M.m7.T, M.m7.no, (r7.same S0), look1, ?_⟩
    refine ⟨_, rfl, l, es, 8, .ref a8, rfl, rfl, SqL.of (S0 _ _ hl), atI_nat (j := 8) h8, a8, c 8, _, _, rfl, M.m8.T, M.m8.no, (r8.same S0), look1, ?_⟩
    refine ⟨_, rfl, l, es, 9, .ref a9, rfl, rfl, SqL.of (S0 _ _ hl), atI_nat (j := 9) h9, a9, c 9, _, _, rfl, M.m9.T, M.m9.no, (r9.same S0), look1, ?_⟩
    refine ⟨_, rfl, l, es, 10, .ref a10, rfl, rfl, SqL.of (S0 _ _ hl), atI_nat (j := 10) h10, a10, c 10, _, _, rfl, M.m10.T, M.m10.no, (r10.same S0), look1, ?_⟩
    refine ⟨_, rfl, l, es, 11, .ref a11, rfl, rfl, SqL.of (S0 _ _ hl), atI_nat (j := 11) h11, a11, c 11, _, _, rfl, M.m11.T, M.m11.no, (r11.same S0), look1, ?_⟩
    refine ⟨_, rfl, l, es, 12, .ref a12, rfl, rfl, SqL.of (S0 _ _ hl), atI_nat (j := 12) h12, a12, c 12, _, _, rfl, M.m12.T, M.m12.no, (r12.same S0), look1, ?_⟩
    refine ⟨by show 6 ≤ sizeLine; decide, fun p1 D1 t1 z1 y1 l1 => ?_⟩
    have lp := t1 _ _ lq
    refine ⟨_, _, _, _, rfl, rfl, lp, l1, by show 13 ≤ sizeLine; decide, fun q1 E1 v1 x1 w1 lq => ?_⟩
    have S1 := S0.trans (t1.trans v1)
    refine ⟨_, rfl, ?_⟩
    refine ⟨_, rfl, l, es, 13, .ref a13, rfl, rfl, SqL.of (S1 _ _ hl), atI_nat (j := 13) h13, a13, c 13, _, _, rfl, M.m13.T, M.m13.no, (r13.same S1), look3 (by decide +kernel), ?_⟩
    refine ⟨_, rfl, l, es, 14, .ref a14, rfl, rfl, SqL.of (S1 _ _ hl), atI_nat (j := 14) h14, a14, c 14, _, _, rfl, M.m14.T, M.m14.no, (r14.same S1), look3 (by decide +kernel), ?_⟩
    refine ⟨_, rfl, l, es, 13, .ref a13, rfl, rfl, SqL.of (S1 _ _ hl), atI_nat (j := 13) h13, a13, c 13, _, _, rfl, M.m13.T, M.m13.no2, (r13.same S1), look2, ?_⟩
    refine ⟨_, rfl, l, es, 14, .ref a14, rfl, rfl, SqL.of (S1 _ _ hl), atI_nat (j := 14) h14, a14, c 14, _, _, rfl, M.m14.T, M.m14.no2, (r14.same S1), look2, ?_⟩
    refine ⟨by show 4 ≤ sizeLine; decide, fun p2 D2 t2 z2 y2 l2 => ?_⟩
    have lp := t2 _ _ lq
    refine ⟨_, _, _, _, rfl, rfl, lp, l2, by show 17 ≤ sizeLine; decide, fun q2 E2 v2 x2 w2 lq => ?_⟩
    have S2 := S1.trans (t2.trans v2)
    exact k _ q2 S2 ((S1.trans t2).free x2) w2 lq
end
/-! ### the bounds -/
section
variable {X : Cx} {k : Nat} {f : Addr} {fd : FuncData} {sp : Sp} {x : Str} {p pos : Pos}
/-- f(), where nothing is being shown -/
theorem pe_callG0 (F : GRun X.prog X.w X.K X.mg X.base k f fd [] sp) (hG : X.A.guards = some []) (hr : Room k X.A) (hg : Gl X x) (hm : X.mg x = some (.ref f)) (hk : PySem.W.keepIn X.K (.ref f) = true) (hb : Binds X.K fd [] []) (hdb : (x == ("__debug__" : Str)) = false := by decide) :
    PE X (.Call (.Name x p) [] [] pos) (tCall sp [] E0 tNil) := by
  refine ⟨fun pins s σ H Q I h => wpAny_Call_Name_kw (ld_glob I hg hm ?_ hdb)⟩
  refine PySem.W.callWith_K0 I.kIn hk ?_
  show wpAny _ _ (call (.ref f) []) _ _ _
  refine wpAny_call (codeAny_mono (F X.A X.stack s H [] [] Q hG hr I.env0 (hb s [] I.kIn rfl) .nil rfl h) fun r s' hq => ?_)
  cases r with
  | error e => exact hq.elim
  | ok fl =>
    cases fl with
    | ret u => exact I.after hq
    | next => exact False.elim hq
    | brk => exact False.elim hq
    | cont => exact False.elim hq
end
structure Bn (mg : Str → Option Value) : Prop where
  MAX_LETTERS : ∃ t, mg "MAX_LETTERS" = some (.int 3 t)
  MAX_ROWS : ∃ t, mg "MAX_ROWS" = some (.int 400 t)
  MAX_STATES : ∃ t, mg "MAX_STATES" = some (.int 6 t)
  MAX_LENGTH : ∃ t, mg "MAX_LENGTH" = some (.int 400 t)
  MAX_TOLD : ∃ t, mg "MAX_TOLD" = some (.int 60 t)
  MAX_WORTH : ∃ t, mg "MAX_WORTH" = some (.int 99 t)
  MAX_COUNT : ∃ t, mg "MAX_COUNT" = some (.int 9 t)
  MAX_MOST : ∃ t, mg "MAX_MOST" = some (.int 200 t)
  MAX_CUT : ∃ t, mg "MAX_CUT" = some (.int 30 t)
  MAX_PASS : ∃ t, mg "MAX_PASS" = some (.int 4 t)
  MAX_PAIRS : ∃ t, mg "MAX_PAIRS" = some (.int 4 t)
  MAX_PIECE : ∃ t, mg "MAX_PIECE" = some (.int 2 t)
  MAX_LINE : ∃ t, mg "MAX_LINE" = some (.int 3 t)
  MAX_STANDS : ∃ t, mg "MAX_STANDS" = some (.int 60 t)
  MAX_LEADERS : ∃ t, mg "MAX_LEADERS" = some (.int 12 t)
  MAX_ASKED : ∃ t, mg "MAX_ASKED" = some (.int 20 t)
  MAX_DEPTH : ∃ t, mg "MAX_DEPTH" = some (.int 4 t)
  MAX_ROOM : ∃ t, mg "MAX_ROOM" = some (.int 1000000 t)
  MAX_WORDS : ∃ t, mg "MAX_WORDS" = some (.int 60 t)
  MAX_LONG : ∃ t, mg "MAX_LONG" = some (.int 200 t)
  MAX_EDITS : ∃ t, mg "MAX_EDITS" = some (.int 80 t)
  BATCH : ∃ t, mg "BATCH" = some (.int 20 t)
  MAX_ENTRIES : ∃ t, mg "MAX_ENTRIES" = some (.int 120 t)
def bks : List Int := [3, 400, 6, 400, 60, 99, 9, 200, 30, 4, 4, 2, 3, 60, 12, 20, 4, 1000000, 60, 200, 80, 20, 120]
theorem bks_ok : (PyData.list (bks.map PyData.int)).showable = true ∧ (PyData.list (bks.map PyData.int)).depth ≤ 60 ∧ (PyData.list (bks.map PyData.int)).shown.length ≤ sizeLine := by decide +kernel
theorem dt_ints {B : Addr → Prop} {K : PySem.W.Frag} {H : Hp} : ∀ ks : List Int, DtAll B K H (ks.map V.int) (ks.map PyData.int)
  | [] => .nil
  | k :: ks => .cons (.int k) (dt_ints ks)
section
variable {P : Program} {w : World} {K : PySem.W.Frag} {mg : Str → Option Value} {base : Heap}
theorem scBounds : FnScope ["_law_found", "_law_due"] [] (defScope sBounds) := ⟨rfl, rfl, rfl, by decide +kernel, rfl, by decide +kernel, by decide +kernel⟩
def spBounds : Sp := fun vs H Q _ => vs = [] ∧ ∀ H', Same H H' → Q (.bl true) H'
theorem ok_bounds {f : Addr} {fd : FuncData} (F : Fun K "_law_bounds_right" "_law_bounds_right" sBounds f fd) (T : Nm mg) (B : Bn mg) : GRun P w K mg base 1 f fd [] spBounds := by
  refine grun F scBounds (fun cdv A outer s H vs Q hG0 hr h => ?_)
  obtain ⟨rfl, k⟩ := h
  have hG : (A.deeper (envOfC "_law_bounds_right" (defScope sBounds) s.heap.objs.size f cdv)).guards = some [] := hG0
  have hu := hr.units
  obtain ⟨t_MAX_LETTERS, e_MAX_LETTERS⟩ := B.MAX_LETTERS
  obtain ⟨t_MAX_ROWS, e_MAX_ROWS⟩ := B.MAX_ROWS
  obtain ⟨t_MAX_STATES, e_MAX_STATES⟩ := B.MAX_STATES
  obtain ⟨t_MAX_LENGTH, e_MAX_LENGTH⟩ := B.MAX_LENGTH
  obtain ⟨t_MAX_TOLD, e_MAX_TOLD⟩ := B.MAX_TOLD
  obtain ⟨t_MAX_WORTH, e_MAX_WORTH⟩ := B.MAX_WORTH
  obtain ⟨t_MAX_COUNT, e_MAX_COUNT⟩ := B.MAX_COUNT
  obtain ⟨t_MAX_MOST, e_MAX_MOST⟩ := B.MAX_MOST
  obtain ⟨t_MAX_CUT, e_MAX_CUT⟩ := B.MAX_CUT
  obtain ⟨t_MAX_PASS, e_MAX_PASS⟩ := B.MAX_PASS
  obtain ⟨t_MAX_PAIRS, e_MAX_PAIRS⟩ := B.MAX_PAIRS
  obtain ⟨t_MAX_PIECE, e_MAX_PIECE⟩ := B.MAX_PIECE
  obtain ⟨t_MAX_LINE, e_MAX_LINE⟩ := B.MAX_LINE
  obtain ⟨t_MAX_STANDS, e_MAX_STANDS⟩ := B.MAX_STANDS
  obtain ⟨t_MAX_LEADERS, e_MAX_LEADERS⟩ := B.MAX_LEADERS
  obtain ⟨t_MAX_ASKED, e_MAX_ASKED⟩ := B.MAX_ASKED
  obtain ⟨t_MAX_DEPTH, e_MAX_DEPTH⟩ := B.MAX_DEPTH
  obtain ⟨t_MAX_ROOM, e_MAX_ROOM⟩ := B.MAX_ROOM
  obtain ⟨t_MAX_WORDS, e_MAX_WORDS⟩ := B.MAX_WORDS
  obtain ⟨t_MAX_LONG, e_MAX_LONG⟩ := B.MAX_LONG
  obtain ⟨t_MAX_EDITS, e_MAX_EDITS⟩ := B.MAX_EDITS
  obtain ⟨t_BATCH, e_BATCH⟩ := B.BATCH
  obtain ⟨t_MAX_ENTRIES, e_MAX_ENTRIES⟩ := B.MAX_ENTRIES
  refine ⟨_, pss_cons (ps_set (i := 0) scBounds.nd rfl (.inl rfl) (pe_lstA (pa_cons (pe_glob (v := .int 3) (by rfl) e_MAX_LETTERS ⟨_, rfl⟩) (pa_cons (pe_glob (v := .int 400) (by rfl) e_MAX_ROWS ⟨_, rfl⟩) (pa_cons (pe_glob (v := .int 6) (by rfl) e_MAX_STATES ⟨_, rfl⟩) (pa_cons (pe_glob (v := .int 400) (by rfl) e_MAX_LENGTH ⟨_, rfl⟩) (pa_cons (pe_glob (v := .int 60) (by rfl) e_MAX_TOLD ⟨_, rfl⟩) (pa_cons (pe_glob (v := .int 99) (by rfl) e_MAX_WORTH ⟨_, rfl⟩) (pa_cons (pe_glob (v := .int 9) (by rfl) e_MAX_COUNT ⟨_, rfl⟩) (pa_cons (pe_glob (v := .int 200) (by rfl) e_MAX_MOST ⟨_, rfl⟩) (pa_cons (pe_glob (v := .int 30) (by rfl) e_MAX_CUT ⟨_, rfl⟩) (pa_cons (pe_glob (v := .int 4) (by rfl) e_MAX_PASS ⟨_, rfl⟩) pa_nil)))))))))))) (pss_cons (ps_set (i := 0) scBounds.nd rfl (.inl rfl) (pe_op op_catA' (pv 0) (pe_lstA (pa_cons (pe_glob (v := .int 4) (by rfl) e_MAX_PAIRS ⟨_, rfl⟩) (pa_cons (pe_glob (v := .int 2) (by rfl) e_MAX_PIECE ⟨_, rfl⟩) (pa_cons (pe_glob (v := .int 3) (by rfl) e_MAX_LINE ⟨_, rfl⟩) (pa_cons (pe_glob (v := .int 60) (by rfl) e_MAX_STANDS ⟨_, rfl⟩) (pa_cons (pe_glob (v := .int 12) (by rfl) e_MAX_LEADERS ⟨_, rfl⟩) (pa_cons (pe_glob (v := .int 20) (by rfl) e_MAX_ASKED ⟨_, rfl⟩) (pa_cons (pe_glob (v := .int 4) (by rfl) e_MAX_DEPTH ⟨_, rfl⟩) (pa_cons (pe_glob (v := .int 1000000) (by rfl) e_MAX_ROOM ⟨_, rfl⟩) (pa_cons (pe_glob (v := .int 60) (by rfl) e_MAX_WORDS ⟨_, rfl⟩) pa_nil)))))))))))) (pss_cons (ps_set (i := 1) scBounds.nd rfl (.inl rfl) (pe_lstA (pa_cons pe_int (pa_cons pe_int (pa_cons pe_int (pa_cons pe_int (pa_cons pe_int (pa_cons pe_int (pa_cons pe_int (pa_cons pe_int (pa_cons pe_int (pa_cons pe_int (pa_cons pe_int (pa_cons pe_int (pa_cons pe_int (pa_cons pe_int (pa_cons pe_int (pa_cons pe_int (pa_cons pe_int (pa_cons (pe_op op_pow pe_int pe_int) (pa_cons pe_int pa_nil)))))))))))))))))))))
    (pss_one (ps_ret (pe_cmpR op_eq (pe_callB (call_reprD hG hu) (by rfl) T.repr (by decide +kernel) (pa_cons (pe_op op_catA' (pv 0) (pe_lstA (pa_cons (pe_glob (v := .int 200) (by rfl) e_MAX_LONG ⟨_, rfl⟩) (pa_cons (pe_glob (v := .int 80) (by rfl) e_MAX_EDITS ⟨_, rfl⟩) (pa_cons (pe_glob (v := .int 20) (by rfl) e_BATCH ⟨_, rfl⟩) (pa_cons (pe_glob (v := .int 120) (by rfl) e_MAX_ENTRIES ⟨_, rfl⟩) pa_nil)))))) pa_nil)) (pe_callB (call_reprD hG hu) (by rfl) T.repr (by decide +kernel) (pa_cons (pe_op op_catA' (pv 1) (pe_lstA (pa_cons pe_int (pa_cons pe_int (pa_cons pe_int (pa_cons pe_int pa_nil)))))) pa_nil)) (nomark _)))))), ?_⟩
  refine ⟨by show 10 ≤ sizeLine; decide, fun p0 H0 s0 n0 z0 l0 => ⟨_, rfl, by show 9 ≤ sizeLine; decide, fun p1 H1 s1 n1 z1 l1 => ?_⟩⟩
  refine ⟨_, _, _, _, rfl, rfl, s1 _ _ l0, l1, by show 19 ≤ sizeLine; decide, fun p2 H2 s2 n2 z2 l2 => ?_⟩
  refine ⟨10, 6, rfl, rfl, ⟨by decide, by decide, by decide⟩, by show 19 ≤ sizeLine; decide, fun p3 H3 s3 n3 z3 l3 => ?_⟩
  refine ⟨_, rfl, by show 4 ≤ sizeLine; decide, fun p4 H4 s4 n4 z4 l4 => ?_⟩
  refine ⟨_, _, _, _, rfl, rfl, s4 _ _ (s3 _ _ l2), l4, by show 23 ≤ sizeLine; decide, fun p5 H5 s5 n5 z5 l5 => ?_⟩
  obtain ⟨o1, o2, o3⟩ := bks_ok
  have e5 : Dt (fun _ => False) K H5 (.ref p5) (.list (bks.map PyData.int)) := .lst (fun z => z) z5 (.inl (show H5 p5 = some (.lst (bks.map V.int)) from l5)) (dt_ints bks)
  refine ⟨_, _, _, rfl, e5, o1, o2, o3, _, rfl, by show 4 ≤ sizeLine; decide, fun p6 H6 s6 n6 z6 l6 => ?_⟩
  refine ⟨_, _, _, _, rfl, rfl, s6 _ _ (s5 _ _ (s4 _ _ l3)), l6, by show 23 ≤ sizeLine; decide, fun p7 H7 s7 n7 z7 l7 => ?_⟩
  have e7 : Dt (fun _ => False) K H7 (.ref p7) (.list (bks.map PyData.int)) := .lst (fun z => z) z7 (.inl (show H7 p7 = some (.lst (bks.map V.int)) from l7)) (dt_ints bks)
  refine ⟨_, _, _, rfl, e7, o1, o2, o3, rfl, ?_⟩
  rw [decide_eq_true rfl]
  exact k _ (s0.trans (s1.trans (s2.trans (s3.trans (s4.trans (s5.trans (s6.trans s7)))))))
end
/-! ### the law -/
def tTupA (t : TA) : TE := fun σ H Q => t σ H fun xs H1 => xs.length ≤ sizeLine ∧ ∀ p H', Same H1 H' → H1 p = none → H' p = some (.tup xs) → Q (.ref p) H'
def tA4 : TE := fun _ H Q => ∀ p H', Same H H' → H p = none → H' p = some (.dK [(.inr "a", .int 4)]) → Q (.ref p) H'
def rRepA : R2 := fun x y H Q => ∃ l k xs, x = .ref l ∧ y = .int k ∧ H l = some (.lst xs) ∧ 0 ≤ k ∧ k ≤ 100 ∧ xs.length ≤ 100 ∧ ∀ p H', Same H H' → H p = none → H' p = some (.lst (List.replicate k.toNat xs).flatten) → Q (.ref p) H'
section
variable {X : Cx} {t : TA} {pos p1 p2 : Pos} {j1 j2 : Nat}
theorem op_repA : OpR X (binaryOp .Mult) rRepA := by
  intro pins s σ H x y v u Q I rx ry h
  obtain ⟨l, k, xs, h1, h2, h3, h4, h5, h6, q⟩ := h
  refine op_rep pins s σ H x y v u Q I rx ry ⟨l, k, xs, h1, h2, h3, by omega, by omega, ?_, fun p np => q p _ (same_new np) np upd_same⟩
  have e : xs.length * k.toNat ≤ 100 * 100 := Nat.mul_le_mul h6 (by omega)
  exact Nat.le_trans e (by decide)
end
theorem ifF {A B : Prop} (h : B) : if false = true then A else B := h
theorem ifE {c : Bool} {A B : Prop} (e : c = false) (h : B) : if c = true then A else B := by
  rw [e]
  exact h
/-! the parts' little facts -/
def late (j : Nat) : Bool := j == 11 || j == 12
theorem late_in : ∀ j : Nat, j < 24 → inV (V.int (0 + (j : Int))) [V.int 11, V.int 12] = late j := by decide +kernel
theorem kS_no : ∀ j, j < 24 → decide (V.bl (!(j == 11 || j == 12)) = V.bl (late j)) = false := by decide +kernel
theorem kL_no : ∀ j, j < 24 → (!decide (V.bl (j == 11 || j == 12) = V.bl (late j))) = false := by decide +kernel
def dls (j : Nat) : List PyData := (List.range 24).map fun t => PyData.bool (decide (j = 0 + t))
theorem dls_ok : ∀ j, j < 24 → SeqAt.shaped (.list (dls j)) = true ∧ (!PyData.eqv (.list (dls j)) (.list (dls j))) = false := by decide +kernel
theorem dp_map {K : PySem.W.Frag} {H : Hp} {f : Nat → Bool} : ∀ l : List Nat, DpAll K H (l.map fun t => V.bl (f t)) (l.map fun t => PyData.bool (f t))
  | [] => .nil
  | t :: l => .cons (.bl _) (dp_map l)
theorem dp_bls {K : PySem.W.Frag} {H : Hp} (j : Nat) : DpAll K H (bls j 0 24) (dls j) := dp_map _
theorem bls_more (j m : Nat) : bls j 0 m ++ [V.bl (decide (V.int (0 + (j : Int)) = V.int (0 + (m : Int))))] = bls j 0 (m + 1) := by
  unfold bls
  rw [List.range_succ, List.map_append]
  congr 2
  show V.bl _ = V.bl _
  congr 1
  by_cases h : j = m
  · subst h
    simp
  · rw [decide_eq_false (fun z => h (by injection z with z; omega)), decide_eq_false (fun z => h (by omega))]
def dued (d e : PyData) : List PyData := [d, d, d, d, d, d, d, d, d, d, d, d, d, d, d, e, e]
theorem due_dt {B : Addr → Prop} {K : PySem.W.Frag} {H : Hp} {x y : V} {d e : PyData} (h : Dt B K H x d) (g : Dt B K H y e) : DtAll B K H (due x y) (dued d e) :=
  .cons h (.cons h (.cons h (.cons h (.cons h (.cons h (.cons h (.cons h (.cons h (.cons h (.cons h (.cons h (.cons h (.cons h (.cons h (.cons g (.cons g .nil))))))))))))))))
theorem due_ok {d e : PyData} (h : okD d = true) (g : okD e = true) : (PyData.list (dued d e)).showable = true ∧ (PyData.list (dued d e)).depth ≤ 60 ∧ (PyData.list (dued d e)).shown.length ≤ sizeLine := by
  obtain ⟨h1, h2, h3⟩ := okD_iff h
  obtain ⟨g1, g2, g3⟩ := okD_iff g
  refine ⟨?_, ?_, ?_⟩
  · simp only [dued, PyData.showable, PyData.showableAll, h1, g1, Bool.and_true]
  · simp only [dued, PyData.depth, PyData.depthAll]
    omega
  · rw [PyData.shown]
    have z := listText_len_le (PyData.shownAll (dued d e))
    simp only [dued, PyData.shownAll, List.map_cons, List.map_nil, List.sum_cons, List.sum_nil, List.length_cons, List.length_nil] at z
    refine Nat.le_trans z (Nat.le_trans (show _ ≤ 100000 by omega) (by decide))
def k34 : PyData := .list [.list [.int 3, .int 4], .list [.int 3, .int 4], .list [.int 3, .int 4]]
theorem k34_ok : SeqAt.shaped k34 = true ∧ (!PyData.eqv k34 k34) = false := by decide +kernel
theorem exo_lst {e C : Addr} {d : Option Addr} {xs : List V} : exo e C d ≠ .lst xs := fun z => by
  have z' : HO.ext _ = HO.lst xs := z
  cases z'
theorem exd_lst {e : Addr} {fs : List (Str × V)} {xs : List V} : exd e fs ≠ .lst xs := fun z => by
  have z' : HO.ext _ = HO.lst xs := z
  cases z'
theorem ErrF.upd {H : Hp} {a C p : Addr} {fs : List (Str × V)} {xs : List V} {o : HO} (h : ErrF H a C fs) (hp : H p = some (.lst xs)) : ErrF (L2.upd H p o) a C fs := by
  obtain ⟨dx, h1, h2⟩ := h
  refine ⟨dx, ?_, ?_⟩
  · rw [upd_ne (at_ne hp h1 exo_lst.symm)]
    exact h1
  · rw [upd_ne (at_ne hp h2 exd_lst.symm)]
    exact h2
theorem dt_keep {B : Addr → Prop} {K : PySem.W.Frag} {H H' : Hp} {v : V} {d : PyData} (k : Keep B H H') (h : Dt B K H v d) : Dt B K H' v d := Dt.keep k d v h
/-- what every turn begins with -/
def one1 : List PyData := [.none, .bool true, .int 0, .int (-1), .str "a", .str "", .tuple [.int 1, .int 2], .list [.int 3], .dict [(.str "a", .int 4)], .tuple [.str "kind", .none]]
theorem one_ok : ∀ d ∈ one1, okD d = true := by decide +kernel
section
variable {P : Program} {w : World} {K : PySem.W.Frag} {mg : Str → Option Value} {base : Heap}
theorem scLaw : FnScope ["_law_script", "_law_deck_here", "_law_turn", "_law_one_here", "_law_other", "_law_errors", "_law_at", "_law_own", "_law_is_late", "_law_due", "_law_kept", "_law_found"] ["_law_script"] (defScope sLaw) := ⟨rfl, rfl, rfl, by decide +kernel, rfl, by decide +kernel, by decide +kernel⟩
def spLaw (K : PySem.W.Frag) : Sp := fun vs H Q _ => ∃ (l : Addr) (ns : List Int), vs = [.ref l] ∧ SqL K H l (ns.map V.int) ∧ ns.length ≤ 63 ∧ ∀ H', Q (.bl true) H'
theorem ok_law {f fK fO fD fA fC fF fN fB : Addr} {fd fdK fdO fdD fdA fdC fdF fdN fdB : FuncData} {c : Nat → Addr} {S : Addr} (F : Fun K "law" "law" sLaw f fd)
    (DK : FnOk P w K mg base CX0 1 fK fdK ["_law_script"] (spDeck K)) (FK : Fun K "_law_deck" "_law_deck" sDeck fK fdK) (bK : Binds K fdK ["_law_script"] []) (gK : mg "_law_deck" = some (.ref fK))
    (O : FnOk P w K mg base CX0 2 fO fdO ["_law_deck_here", "_law_items"] (spOne K)) (FO : Fun K "_law_one" "_law_one" sOne fO fdO) (bO : Binds K fdO ["_law_deck_here", "_law_items"] []) (gO : mg "_law_one" = some (.ref fO))
    (OD : FnOk P w K mg base CX0 3 fD fdD ["_law_deck_here"] (spOdd K)) (FD : Fun K "_law_odd" "_law_odd" sOdd fD fdD) (bD : Binds K fdD ["_law_deck_here"] []) (gD : mg "_law_odd" = some (.ref fD))
    (AL : FnOk P w K mg base CX0 3 fA fdA ["_law_one_here", "_law_other"] (spAll c 24)) (FA : Fun K "_law_all" "_law_all" sAll fA fdA) (bA : Binds K fdA ["_law_one_here", "_law_other"] []) (gA : mg "_law_all" = some (.ref fA))
    (CL : FnOk P w K mg base CX0 2 fC fdC ["_law_error1"] (spCl c 24)) (FC : Fun K "_law_classes" "_law_classes" sClasses fC fdC) (bC : Binds K fdC ["_law_error1"] []) (gC : mg "_law_classes" = some (.ref fC))
    (FI : FnOk P w K mg base CX0 1 fF fdF ["_law_some"] (spFields c)) (FF : Fun K "_law_fields" "_law_fields" sFields fF fdF) (bF : Binds K fdF ["_law_some"] []) (gF : mg "_law_fields" = some (.ref fF))
    (NA : FnOk P w K mg base CX0 3 fN fdN ["_law_one_here", "_law_other"] (spAll c 15)) (FN : Fun K "_law_named" "_law_named" sNamed fN fdN) (bN : Binds K fdN ["_law_one_here", "_law_other"] []) (gN : mg "_law_named" = some (.ref fN))
    (BD : GRun P w K mg base 1 fB fdB [] spBounds) (FB : Fun K "_law_bounds_right" "_law_bounds_right" sBounds fB fdB) (bB : Binds K fdB [] []) (gB : mg "_law_bounds_right" = some (.ref fB))
    (T : Nm mg) (L : Cs K mg c S) (M : Ms P w K mg base c) (MS : C0 K mg "ShelfError" S) : GRun P w K mg base 4 f fd ["_law_script"] (spLaw K) := by
  refine grun F scLaw (fun cdv A outer s H vs Q hG0 hr h => ?_)
  obtain ⟨l, ns, rfl, hS, hlen, k⟩ := h
  have hG : (A.deeper (envOfC "law" (defScope sLaw) s.heap.objs.size f cdv)).guards = some [] := hG0
  have hu := hr.units
  have hr2 := hr.mono (show 2 ≤ 3 by decide)
  refine ⟨_, (pss_cons (ps_set (i := 1) scLaw.nd rfl (.inl rfl) (pe_call DK (hr.mono (by decide)) (by rfl) gK FK.kp bK .nil pass0 (pa_cons (pv 0) pa_nil))) (pss_cons (ps_if (pt_not (pt_val (pe_callG0 BD hG (hr.mono (by decide)) (by rfl) gB FB.kp bB))) (pss_one (ps_ret pe_bl)) pss_nil) (pss_cons (ps_for PassesOwn.never rfl (pi_range1 (by rfl) T.range (pa_cons pe_int pa_nil)) (pg_name (i := 2) scLaw.nd rfl (.inl rfl)) (pss_cons (ps_set (i := 3) scLaw.nd rfl (.inl rfl) (pe_call O (hr.mono (by decide)) (by rfl) gO FO.kp bO .nil pass0 (pa_cons (pv 1) (pa_cons (pe_lstA (pa_cons pe_non (pa_cons pe_bl (pa_cons pe_int (pa_cons (pe_un un_neg pe_int) (pa_cons pe_str (pa_cons pe_str (pa_cons (pe_tup (pa_cons pe_int (pa_cons pe_int pa_nil))) (pa_cons (pe_lstA (pa_cons pe_int pa_nil)) (pa_cons (pe_disp (pps_cons pe_str pe_int pps_nil) rfl rfl (by simp) (by decide)) (pa_cons (pe_tup (pa_cons pe_str (pa_cons pe_non pa_nil))) (pa_cons (pe_call OD (hr.mono (by decide)) (by rfl) gD FD.kp bD .nil pass0 (pa_cons (pv 1) pa_nil)) pa_nil)))))))))))) pa_nil)))) (pss_cons (ps_set (i := 4) scLaw.nd rfl (.inl rfl) (pe_call OD (hr.mono (by decide)) (by rfl) gD FD.kp bD .nil pass0 (pa_cons (pv 1) pa_nil))) (pss_cons (ps_set (i := 5) scLaw.nd rfl (.inl rfl) (pe_call AL (hr.mono (by decide)) (by rfl) gA FA.kp bA .nil pass0 (pa_cons (pv 3) (pa_cons (pv 4) pa_nil)))) (pss_cons (ps_for PassesOwn.never rfl (pi_range1 (by rfl) T.range (pa_cons pe_int pa_nil)) (pg_name (i := 6) scLaw.nd rfl (.inr rfl)) (pss_cons (ps_if (pt_cmpR (op_neD hu) (pe_call CL (hr.mono (by decide)) (by rfl) gC FC.kp bC .nil pass0 (pa_cons (pe_ix ix_list (pv 5) (pv 6) (fun _ _ => rfl)) pa_nil)) (pe_lc (own := [("_law_own", 7)]) (g := gName 7) (tt := tYes) rfl scLaw.nd (pi_range1 (by rfl) T.range (pa_cons pe_int pa_nil)) (blkOk_by (N := ["_law_script", "_law_deck_here", "_law_turn", "_law_one_here", "_law_other", "_law_errors", "_law_at", "_law_own", "_law_is_late", "_law_due", "_law_kept", "_law_found"]) (sc := defScope sLaw) (by decide +kernel)) (fun _ _ _ _ _ => pg_name (i := 7) scLaw.nd rfl (Or.inl rfl)) (fun _ _ _ _ _ => pts_nil) (fun _ _ _ _ _ => pe_cmpR op_eq (pv 6) (pv 7) (nomark _))) (nomark _)) (pss_one (ps_ret pe_bl)) pss_nil) (pss_cons (ps_set (i := 8) scLaw.nd rfl (.inl rfl) (pe_cmpR op_in_seq (pv 6) (pe_lstA (pa_cons pe_int (pa_cons pe_int pa_nil))) rfl)) (pss_cons (ps_if (PW.pt (pw_or (pt_cmpR op_eq (pe_callB call_isX (by rfl) T.isi PyProof.Rows.boot_isinstance (pa_cons (pe_ix ix_list (pv 5) (pv 6) (fun _ _ => rfl)) (pa_cons (pe_glob (v := .ref S) (by rfl) L.gS rfl) pa_nil))) (pv 8) (nomark _)) (pw_or1 (pt_cmpR op_eq (pe_callB call_isX (by rfl) T.isi PyProof.Rows.boot_isinstance (pa_cons (pe_ix ix_list (pv 5) (pv 6) (fun _ _ => rfl)) (pa_cons (pe_bltn (v := .ty "ValueError") (by rfl) T.vE PyProof.Rows.Boot.«ValueError» rfl) pa_nil))) (pv 8) (nomark _))))) (pss_one (ps_ret pe_bl)) pss_nil) (pss_one (ps_if (pt_cmpR op_ne (pe_callB call_isX (by rfl) T.isi PyProof.Rows.boot_isinstance (pa_cons (pe_ix ix_list (pv 5) (pv 6) (fun _ _ => rfl)) (pa_cons (pe_bltn (v := .ty "LookupError") (by rfl) T.lE PyProof.Rows.Boot.«LookupError» rfl) pa_nil))) (pv 8) (nomark _)) (pss_one (ps_ret pe_bl)) pss_nil)))))) (pss_cons (ps_set (i := 9) scLaw.nd rfl (.inl rfl) (pe_op op_catA' (pe_op op_repA (pe_lstA (pa_cons (pv 3) pa_nil)) pe_int) (pe_op op_repA (pe_lstA (pa_cons (pv 4) pa_nil)) pe_int))) (pss_cons (ps_if (PW.pt (pw_or (pt_cmpR op_ne (pe_callB (call_reprD hG hu) (by rfl) T.repr (by decide +kernel) (pa_cons (pe_call FI (hr.mono (by decide)) (by rfl) gF FF.kp bF .nil pass0 (pa_cons (pv 5) pa_nil)) pa_nil)) (pe_callB (call_reprD hG hu) (by rfl) T.repr (by decide +kernel) (pa_cons (pv 9) pa_nil)) (nomark _)) (pw_or1 (pt_cmpR op_ne (pe_callB (call_reprD hG hu) (by rfl) T.repr (by decide +kernel) (pa_cons (pe_call FI (hr.mono (by decide)) (by rfl) gF FF.kp bF .nil pass0 (pa_cons (pe_call NA (hr.mono (by decide)) (by rfl) gN FN.kp bN .nil pass0 (pa_cons (pv 3) (pa_cons (pv 4) pa_nil))) pa_nil)) pa_nil)) (pe_callB (call_reprD hG hu) (by rfl) T.repr (by decide +kernel) (pa_cons (pv 9) pa_nil)) (nomark _))))) (pss_one (ps_ret pe_bl)) pss_nil) (pss_cons (ps_set (i := 10) scLaw.nd rfl (.inl rfl) (pe_lstA (pa_cons pe_int pa_nil))) (pss_cons (ps_set (i := 11) scLaw.nd rfl (.inl rfl) (pe_lstA (pa_cons (pe_c1 M.m2 hr2 (by rfl) (pa_cons (pv 10) pa_nil)) (pa_cons (pe_c2 M.m14 hr2 (by rfl) (pa_cons pe_str (pa_cons (pv 10) pa_nil))) (pa_cons (pe_c1 M.m11 hr2 (by rfl) (pa_cons (pv 10) pa_nil)) pa_nil))))) (pss_cons (ps_expr (pe_bm PySem.F.plainAttrs_list PySem.F.slot_list_append PySem.F.type_list_append mt_append (pv 10) (pa_cons pe_int pa_nil))) (pss_one (ps_if (pt_cmpR (op_neD hu) (pe_lstA (pa_cons (pe_ef (pe_ix ix_list (pv 11) pe_int (fun _ _ => rfl))) (pa_cons (pe_ef (pe_ix ix_list (pv 11) pe_int (fun _ _ => rfl))) (pa_cons (pe_ef (pe_ix ix_list (pv 11) pe_int (fun _ _ => rfl))) pa_nil)))) (pe_op op_repA (pe_lstA (pa_cons (pe_lstA (pa_cons pe_int (pa_cons pe_int pa_nil))) pa_nil)) pe_int) (nomark _)) (pss_one (ps_ret pe_bl)) pss_nil)))))))))))) (pss_one (ps_ret (pe_and (pe_callB call_isX (by rfl) T.isi PyProof.Rows.boot_isinstance (pa_cons (pe_c0 MS (by rfl)) (pa_cons (pe_bltn (v := .ty "ValueError") (by rfl) T.vE PyProof.Rows.Boot.«ValueError» rfl) pa_nil))) (pe_one (pe_not (pe_callB call_isX (by rfl) T.isi PyProof.Rows.boot_isinstance (pa_cons (pe_c0 MS (by rfl)) (pa_cons (pe_bltn (v := .ty "LookupError") (by rfl) T.lE PyProof.Rows.Boot.«LookupError» rfl) pa_nil))))))))))), ?_⟩
  refine ⟨_, rfl, l, ns, rfl, hS, hlen, fun H1 a c' cells0 s1 na nc dk0 => ?_⟩
  refine ⟨rfl, fun H2 s2 => ⟨true, rfl, ifE (c := !true) rfl ?_⟩⟩
  have dk1 := deck_same s2 dk0
  refine ⟨6, rfl, by decide, by decide, for_range (lo := 0) (n := 6) (fun i σ H' => (∃ y2 y3 y4 y5 y6 y8 y9 y10 y11, σ = [some (V.ref l), some (V.ref a), y2, y3, y4, y5, y6, none, y8, y9, y10, y11]) ∧ ∃ cells n, DeckAt a c' cells n H' ∧ 0 ≤ n ∧ n ≤ 100 * (i : Int))
    ⟨⟨none, none, none, none, none, none, none, none, none, rfl⟩, cells0, 0, dk1, Int.le_refl _, by omega⟩ ?_ (fun σ H' _ => ?_)⟩
  · rintro i σ H3 hi ⟨⟨y2, y3, y4, y5, y6, y8, y9, y10, y11, rfl⟩, cells, n, dk, n0, n1⟩
    -- one
    refine ⟨_, rfl, 1, rfl, by show 2 ≤ sizeLine; decide, fun p1 e1 => ?_⟩
    obtain ⟨d1, k1, t1⟩ := mk_tup (K := K) (xs := [.int 1, .int 2]) dk e1 (.cons (.int _) (.cons (.int _) .nil))
    generalize upd H3 p1 (HO.tup [.int 1, .int 2]) = G1 at *
    refine ⟨by show 1 ≤ sizeLine; decide, fun p2 G2 t2 m2 z2 l2 => ?_⟩
    have k2 := deck_same t2 k1
    have d2 : Dt (Bd a c') K G2 (.ref p2) (.list [.int 3]) := .lst (deck_off k1 m2) z2 (.inl l2) (.cons (.int _) .nil)
    intro p3 e3
    refine ⟨upd_same, [(.inr "a", .int 4)], rfl, by decide, ?_⟩
    have l3 : upd (upd G2 p3 (.dK [])) p3 (.dK (mergeK [] [((.inr "a" : Key), V.int 4)])) p3 = some (.dK [(.inr "a", .int 4)]) := upd_same
    have t3 : Same G2 (upd (upd G2 p3 (.dK [])) p3 (.dK (mergeK [] [((.inr "a" : Key), V.int 4)]))) := fun b o q => by
      rw [upd_ne (ne_of_none q e3), upd_ne (ne_of_none q e3)]
      exact q
    have d3 : Dt (Bd a c') K _ (.ref p3) (.dict [(.str "a", .int 4)]) := .one (deck_off k2 e3) l3
    have k3 := deck_same t3 k2
    generalize upd (upd G2 p3 (HO.dK [])) p3 (HO.dK (mergeK [] [((.inr "a" : Key), V.int 4)])) = G3 at *
    refine ⟨by show 2 ≤ sizeLine; decide, fun p4 e4 => ?_⟩
    obtain ⟨d4, k4, t4⟩ := mk_tup (K := K) (xs := [.str "kind", .non]) k3 e4 (.cons (.str _) (.cons .non .nil))
    generalize upd G3 p4 (HO.tup [.str "kind", .non]) = G4 at *
    refine ⟨_, rfl, a, c', cells, n, rfl, k4, n0, by omega, fun G5 cells5 x5 f5 d5 ok5 k5 kp5 => ?_⟩
    refine ⟨by show 11 ≤ sizeLine; decide, fun p6 G6 t6 m6 z6 l6 => ?_⟩
    have k6 := deck_same t6 k5
    have w1 := (dt_keep ((Keep.same (t2.trans (t3.trans t4))).trans (kp5.trans (Keep.same t6))) d1)
    have w2 := (dt_keep ((Keep.same (t3.trans t4)).trans (kp5.trans (Keep.same t6))) d2)
    have w3 := (dt_keep ((Keep.same t4).trans (kp5.trans (Keep.same t6))) d3)
    have w4 := (dt_keep (kp5.trans (Keep.same t6)) d4)
    have w5 := same_dt t6 d5
    have all : DtAll (Bd a c') K G6 [.non, .bl true, .int 0, .int (-1), .str "a", .str "", .ref p1, .ref p2, .ref p3, .ref p4, x5] (one1 ++ [f5]) :=
      .cons .non (.cons (.bl _) (.cons (.int _) (.cons (.int _) (.cons (.str _) (.cons (.str _) (.cons w1 (.cons w2 (.cons w3 (.cons w4 (.cons w5 .nil))))))))))
    refine ⟨a, c', p6, cells5, n + 1, _, rfl, k6, by omega, by omega, SqL.of l6, deck_off k5 m6, List.cons_ne_nil _ _, by show 11 ≤ 1000; decide, fun G7 cells7 x hx k7 kp7 => ?_⟩
    obtain ⟨q, hq⟩ := List.mem_iff_getElem?.mp hx
    obtain ⟨d, hd, hdt⟩ := all.getV hq
    have okd : okD d = true := by
      rcases List.mem_append.mp (List.mem_of_getElem? hd) with z | z
      · exact one_ok d z
      · rw [List.mem_singleton.mp z]
        exact ok5
    have dx := dt_keep kp7 hdt
    clear all hdt hd hq hx w1 w2 w3 w4 w5 d1 d2 d3 d4 d5
    -- other
    refine ⟨_, rfl, a, c', cells7, n + 1 + 1, rfl, k7, by omega, by omega, fun G8 cells8 y e dy oke k8 kp8 => ?_⟩
    have dx := dt_keep kp8 dx
    -- the errors
    refine ⟨_, rfl, _, rfl, x, y, rfl, fun G9 p9 es t9 m9 l9 hz9 all9 => ?_⟩
    have dx := same_dt t9 dx
    have dy := same_dt t9 dy
    have k9 := deck_same t9 k8
    refine ⟨24, rfl, by decide, by decide, for_range (lo := 0) (n := 24) (fun j σ H' => (∃ z6 z8, σ = [some (V.ref l), some (V.ref a), some (V.int (0 + i)), some x, some y, some (V.ref p9), z6, none, z8, y9, y10, y11]) ∧ Same G9 H') ⟨⟨y6, y8, rfl⟩, Same.refl G9⟩ ?_ ?_⟩
    · rintro j σ H4 hj ⟨⟨z6, z8, rfl⟩, u4⟩
      obtain ⟨v, hv, er0⟩ := all9.at (j := j) (by omega)
      obtain ⟨ae, rfl, er⟩ := er0.err
      rw [Nat.zero_add] at er
      have ej : atI es (0 + (j : Int)) = some (V.ref ae) := by
        have z := atI_nat hv
        rw [Int.zero_add]
        exact z
      have hp4 := u4 _ _ l9
      have er4 := er.same u4
      -- its classes
      refine ⟨_, rfl, _, rfl, p9, es, 0 + (j : Int), _, rfl, rfl, SqL.of hp4, ej, ae, j, rfl, hj, er4, fun H5 pc u5 m5 _ l5 => ?_⟩
      refine ⟨24, rfl, by decide, by decide, fun D hD => ?_⟩
      refine lc_range (lo := 0) (n := 24) (fun m H' => Same H5 H' ∧ H' D = some (.lst (bls j 0 m))) ⟨same_new hD, upd_same⟩ ?_ ?_
      · rintro m H6 hm ⟨u6, l6⟩
        refine ⟨rfl, _, rfl, _, rfl, rfl, _, l6, small1000 (by rw [bls, List.length_map, List.length_range]; omega), fun b o q => ?_, ?_⟩
        · rw [upd_ne (ne_of_none q hD)]
          exact u6 b o q
        · rw [upd_same, bls_more]
      rintro H6 ⟨u6, l6⟩
      obtain ⟨o1, o2⟩ := dls_ok j hj
      refine ⟨_, _, .lst (SqL.of (u6 _ _ l5)) (dp_bls j), .lst (SqL.of l6) (dp_bls j), o1, o1, _, rfl, ifE o2 ?_⟩
      -- late
      refine ⟨_, rfl, by show 2 ≤ sizeLine; decide, fun p7 H7 u7 m7 z7 l7 => ?_⟩
      refine ⟨p7, _, rfl, .inl (SqL.of l7), rfl, rfl, ?_⟩
      have v7 := u4.trans (u5.trans (u6.trans u7))
      have hp7 := v7 _ _ l9
      have er7 := er.same v7
      rw [show (if false = true then !inV (V.int (0 + (j : Int))) [V.int 11, V.int 12] else inV (V.int (0 + (j : Int))) [V.int 11, V.int 12]) = late j from late_in j hj]
      refine ⟨_, rfl, _, rfl, p9, es, 0 + (j : Int), _, rfl, rfl, SqL.of hp7, ej, ae, c j, _, _, _, rfl, L.ec j hj, er7, .own S, L.kS j hj, _, rfl, rfl, _, rfl, ifE (kS_no j hj) ?_⟩
      refine ⟨_, rfl, _, rfl, p9, es, 0 + (j : Int), _, rfl, rfl, SqL.of hp7, ej, ae, c j, _, _, _, rfl, L.ec j hj, er7, .ty "ValueError", L.kV j hj, _, rfl, rfl, _, rfl, ifE (kS_no j hj) ?_⟩
      refine ⟨_, rfl, _, rfl, p9, es, 0 + (j : Int), _, rfl, rfl, SqL.of hp7, ej, ae, c j, _, _, _, rfl, L.ec j hj, er7, .ty "LookupError", L.kL j hj, _, rfl, rfl, _, rfl, ifE (kL_no j hj) ?_⟩
      exact ⟨⟨_, _, rfl⟩, v7⟩
    · rintro σ H4 ⟨⟨z6, z8, rfl⟩, u4⟩
      -- due
      refine ⟨_, rfl, by show 1 ≤ sizeLine; decide, fun p5 H5 u5 m5 z5 l5 => ⟨p5, 15, [x], rfl, rfl, l5, by decide, by decide, by show 1 ≤ 100; decide, fun p6 H6 u6 m6 l6 => ?_⟩⟩
      refine ⟨_, rfl, by show 1 ≤ sizeLine; decide, fun p7 H7 u7 m7 z7 l7 => ⟨p7, 2, [y], rfl, rfl, l7, by decide, by decide, by show 1 ≤ 100; decide, fun p8 H8 u8 m8 l8 => ?_⟩⟩
      refine ⟨p6, p8, _, _, rfl, rfl, u8 _ _ (u7 _ _ l6), l8, by show 17 ≤ sizeLine; decide, fun pd Hd ud md zd ld => ?_⟩
      have vd := u4.trans (u5.trans (u6.trans (u7.trans (u8.trans ud))))
      have ld : Hd pd = some (.lst (due x y)) := ld
      have kd := deck_same vd k9
      have ndk := deck_off (deck_same (u4.trans (u5.trans (u6.trans (u7.trans u8)))) k9) md
      obtain ⟨o1, o2, o3⟩ := due_ok okd oke
      -- the fields
      refine ⟨_, rfl, p9, es, x, y, rfl, vd _ _ l9, by omega, all9.same vd, fun Hf pf uf mf zf lf => ?_⟩
      have df : Dt (Bd a c') K Hf (.ref pf) (.list (dued d e)) := .lst (deck_off kd mf) zf (.inl lf) (due_dt (same_dt (vd.trans uf) dx) (same_dt (vd.trans uf) dy))
      have dd : Dt (Bd a c') K Hf (.ref pd) (.list (dued d e)) := .lst ndk zd (.inl (uf _ _ ld)) (due_dt (same_dt (vd.trans uf) dx) (same_dt (vd.trans uf) dy))
      refine ⟨_, _, _, rfl, df, o1, o2, o3, _, rfl, _, _, _, rfl, dd, o1, o2, o3, rfl, _, rfl, ifE (by rw [decide_eq_true rfl]; rfl) ?_⟩
      have kf := deck_same uf kd
      refine ⟨_, rfl, _, rfl, x, y, rfl, fun Hn pn en un mn ln hzn alln => ?_⟩
      have kn := deck_same un kf
      refine ⟨pn, en, x, y, rfl, ln, by omega, alln, fun Hg pg ug mg' zg lg => ?_⟩
      have vg := (vd.trans uf).trans (un.trans ug)
      have dg : Dt (Bd a c') K Hg (.ref pg) (.list (dued d e)) := .lst (deck_off kn mg') zg (.inl lg) (due_dt (same_dt vg dx) (same_dt vg dy))
      have de : Dt (Bd a c') K Hg (.ref pd) (.list (dued d e)) := .lst ndk zd (.inl ((uf.trans (un.trans ug)) _ _ ld)) (due_dt (same_dt vg dx) (same_dt vg dy))
      refine ⟨_, _, _, rfl, dg, o1, o2, o3, _, rfl, _, _, _, rfl, de, o1, o2, o3, rfl, _, rfl, ifE (by rw [decide_eq_true rfl]; rfl) ?_⟩
      have kg := deck_same ug kn
      -- kept
      refine ⟨by show 1 ≤ sizeLine; decide, fun pk Hk uk mk zk lk => ?_⟩
      have nk := deck_off kg mk
      have kk := deck_same uk kg
      refine ⟨_, rfl, rfl, fun a1 I1 w1 q1 r1 => ⟨_, rfl, rfl, fun a2 I2 w2 q2 r2 => ⟨_, rfl, rfl, fun a3 I3 w3 q3 r3 => ⟨by show 3 ≤ sizeLine; decide, fun po Ho uo mo zo lo => ?_⟩⟩⟩⟩
      have lk' := (w1.trans (w2.trans (w3.trans uo))) _ _ lk
      have ko := deck_same (w1.trans (w2.trans (w3.trans uo))) kk
      have R1 := (r1.same (w2.trans (w3.trans uo))).upd (o := .lst ([V.int 3] ++ [V.int 4])) lk'
      have R2 := (r2.same (w3.trans uo)).upd (o := .lst ([V.int 3] ++ [V.int 4])) lk'
      have R3 := (r3.same uo).upd (o := .lst ([V.int 3] ++ [V.int 4])) lk'
      have npo : po ≠ pk := fun z => by
        rw [z] at mo
        rw [(w1.trans (w2.trans w3)) _ _ lk] at mo
        cases mo
      refine ⟨_, rfl, .inl ⟨rfl, _, SqL.of lk'⟩, pk, _, _, rfl, rfl, lk', by show 1 < sizeLine; decide, ?_⟩
      have lo2 : upd Ho pk (.lst ([V.int 3] ++ [V.int 4])) po = some (.lst [.ref a1, .ref a2, .ref a3]) := by
        rw [upd_ne npo]
        exact lo
      have lk2 : upd Ho pk (.lst ([V.int 3] ++ [V.int 4])) pk = some (.lst [.int 3, .int 4]) := upd_same
      have ko2 : DeckAt a c' cells8 (n + 1 + 1 + 1) (upd Ho pk (.lst ([V.int 3] ++ [V.int 4]))) := by
        obtain ⟨g1, g2, g3, g4, g5⟩ := ko
        refine ⟨g1, ?_, ?_, g4, g5⟩
        · rw [upd_ne (fun z => nk (.inl z.symm))]
          exact g2
        · rw [upd_ne (fun z => nk (.inr z.symm))]
          exact g3
      generalize upd Ho pk (.lst ([V.int 3] ++ [V.int 4])) = Hh at *
      refine ⟨_, rfl, po, _, 0, .ref a1, rfl, rfl, SqL.of lo2, atI_nat (j := 0) rfl, a1, c 2, _, .ref pk, rfl, M.m2.T, M.m2.no, R1, look1, ?_⟩
      refine ⟨_, rfl, po, _, 1, .ref a2, rfl, rfl, SqL.of lo2, atI_nat (j := 1) rfl, a2, c 14, _, .ref pk, rfl, M.m14.T, M.m14.no2, R2, look2, ?_⟩
      refine ⟨_, rfl, po, _, 2, .ref a3, rfl, rfl, SqL.of lo2, atI_nat (j := 2) rfl, a3, c 11, _, .ref pk, rfl, M.m11.T, M.m11.no, R3, look1, ?_⟩
      refine ⟨by show 3 ≤ sizeLine; decide, fun px Hx ux mx zx lx => ?_⟩
      refine ⟨by show 2 ≤ sizeLine; decide, fun py Hy uy my zy ly => ⟨by show 1 ≤ sizeLine; decide, fun pz Hz uz mz zz lz => ⟨pz, 3, [.ref py], rfl, rfl, lz, by decide, by decide, by show 1 ≤ 100; decide, fun pw Hw uw mw lw => ?_⟩⟩⟩
      obtain ⟨o4, o5⟩ := k34_ok
      have v1 := ux.trans (uy.trans (uz.trans uw))
      have kp34 : Dp K Hw (.ref pk) (.list [.int 3, .int 4]) := .lst (SqL.of (v1 _ _ lk2)) (.cons (.int 3) (.cons (.int 4) .nil))
      have ky34 : Dp K Hw (.ref py) (.list [.int 3, .int 4]) := .lst (SqL.of ((uz.trans uw) _ _ ly)) (.cons (.int 3) (.cons (.int 4) .nil))
      refine ⟨k34, k34, .lst (SqL.of ((uy.trans (uz.trans uw)) _ _ lx)) (.cons kp34 (.cons kp34 (.cons kp34 .nil))), .lst (SqL.of lw) (.cons ky34 (.cons ky34 (.cons ky34 .nil))), o4, o4, _, rfl, ifE o5 ?_⟩
      exact ⟨⟨_, _, _, _, _, _, _, _, _, rfl⟩, cells8, n + 1 + 1 + 1, deck_same v1 ko2, by omega, by omega⟩
  · intro b1 I1 w1 q1 r1
    refine ⟨b1, S, _, _, _, rfl, L.eS, .inr r1, .ty "ValueError", L.sV, _, rfl, ?_⟩
    intro b2 I2 w2 q2 r2
    exact ⟨b2, S, _, _, _, rfl, L.eS, .inr r2, .ty "LookupError", L.sL, _, rfl, k _⟩
end
/-! ### the end -/
def kitAll (K : PySem.W.Frag) (cs : List Addr) (S : Addr) : Bool := (List.range 24).all fun i => (List.range 24).all (fun j => PySem.W.kitOne K (.ref (cs.getD i 0)) (.ref (cs.getD j 0)) == some (decide (i = j))) && (PySem.W.kitOne K (.ref (cs.getD i 0)) (.ref S) == some (!(i == 11 || i == 12)) &&
  (PySem.W.kitOne K (.ref (cs.getD i 0)) (.type "ValueError") == some (!(i == 11 || i == 12)) && PySem.W.kitOne K (.ref (cs.getD i 0)) (.type "LookupError") == some (i == 11 || i == 12)))
theorem kitAll_ok {K : PySem.W.Frag} {cs : List Addr} {S : Addr} (h : kitAll K cs S = true) {i : Nat} (hi : i < 24) : (∀ j, j < 24 → PySem.W.kitOne K (.ref (cs.getD i 0)) (.ref (cs.getD j 0)) = some (decide (i = j))) ∧ PySem.W.kitOne K (.ref (cs.getD i 0)) (.ref S) = some (!(i == 11 || i == 12)) ∧
    PySem.W.kitOne K (.ref (cs.getD i 0)) (.type "ValueError") = some (!(i == 11 || i == 12)) ∧ PySem.W.kitOne K (.ref (cs.getD i 0)) (.type "LookupError") = some (i == 11 || i == 12) := by
  have h1 := List.all_eq_true.mp h i (List.mem_range.mpr hi)
  rw [Bool.and_eq_true, Bool.and_eq_true, Bool.and_eq_true] at h1
  obtain ⟨h1, h2, h3, h4⟩ := h1
  exact ⟨fun j hj => beq_iff_eq.mp (List.all_eq_true.mp h1 j (List.mem_range.mpr hj)), beq_iff_eq.mp h2, beq_iff_eq.mp h3, beq_iff_eq.mp h4⟩
def sAll3 (K : PySem.W.Frag) (S : Addr) : Bool := PySem.W.kitOne K (.ref S) (.type "ValueError") == some true && PySem.W.kitOne K (.ref S) (.type "LookupError") == some false
theorem vals_rev : ∀ {vs : List V} {us : List Value}, Vals vs us → Vals vs.reverse us.reverse
  | _, _, .nil => .nil
  | _, _, .cons r t => by
    rw [List.reverse_cons, List.reverse_cons]
    exact (vals_rev t).append (.cons r .nil)
theorem all24 {P : Nat → Prop} (H0 : P 0 ∧ P 1 ∧ P 2 ∧ P 3 ∧ P 4 ∧ P 5 ∧ P 6 ∧ P 7 ∧ P 8 ∧ P 9 ∧ P 10 ∧ P 11 ∧ P 12 ∧ P 13 ∧ P 14 ∧ P 15 ∧ P 16 ∧ P 17 ∧ P 18 ∧ P 19 ∧ P 20 ∧ P 21 ∧ P 22 ∧ P 23) : ∀ i, i < 24 → P i := by
  obtain ⟨h0, h1, h2, h3, h4, h5, h6, h7, h8, h9, h10, h11, h12, h13, h14, h15, h16, h17, h18, h19, h20, h21, h22, h23⟩ := H0
  intro i hi
  match i, hi with
  | 0, _ => exact h0
  | 1, _ => exact h1
  | 2, _ => exact h2
  | 3, _ => exact h3
  | 4, _ => exact h4
  | 5, _ => exact h5
  | 6, _ => exact h6
  | 7, _ => exact h7
  | 8, _ => exact h8
  | 9, _ => exact h9
  | 10, _ => exact h10
  | 11, _ => exact h11
  | 12, _ => exact h12
  | 13, _ => exact h13
  | 14, _ => exact h14
  | 15, _ => exact h15
  | 16, _ => exact h16
  | 17, _ => exact h17
  | 18, _ => exact h18
  | 19, _ => exact h19
  | 20, _ => exact h20
  | 21, _ => exact h21
  | 22, _ => exact h22
  | 23, _ => exact h23
  | n + 24, h => exact absurd h (by omega)
theorem all_mk {l : PySem.W.OpenLaw} {w : World} {K : PySem.W.Frag} {h : Heap} {mg : Str → Option Value} {fa S C0 C1 C2 C3 C4 C5 C6 C7 C8 C9 C10 C11 C12 C13 C14 C15 C16 C17 C18 C19 C20 C21 C22 C23 i0 i1 i2 i3 i4 i5 i6 i7 i8 i9 i10 i11 i12 i13 i14 f0 f1 f2 f3 f4 f5 f6 f7 f8 f9 f10 : Addr} (inK : K.In h) (atG : h.Ns mainGlobals mg) (hfa : mg "law" = some (.ref fa)) {odi0 ani0 odi1 ani1 odi2 ani2 odi3 ani3 odi4 ani4 odi5 ani5 odi6 ani6 odi7 ani7 odi8 ani8 odi9 ani9 odi10 ani10 odi11 ani11 odi12 ani12 odi13 ani13 odi14 ani14 : Option Addr} {sli0 sli1 sli2 sli3 sli4 sli5 sli6 sli7 sli8 sli9 sli10 sli11 sli12 sli13 sli14 : Array (Option Value)} {oci0 kVi0 dci0 pmi0 cdi0 cti0 oci1 kVi1 dci1 pmi1 cdi1 cti1 oci2 kVi2 dci2 pmi2 cdi2 cti2 oci3 kVi3 dci3 pmi3 cdi3 cti3 oci4 kVi4 dci4 pmi4 cdi4 cti4 oci5 kVi5 dci5 pmi5 cdi5 cti5 oci6 kVi6 dci6 pmi6 cdi6 cti6 oci7 kVi7 dci7 pmi7 cdi7 cti7 oci8 kVi8 dci8 pmi8 cdi8 cti8 oci9 kVi9 dci9 pmi9 cdi9 cti9 oci10 kVi10 dci10 pmi10 cdi10 cti10 oci11 kVi11 dci11 pmi11 cdi11 cti11 oci12 kVi12 dci12 pmi12 cdi12 cti12 oci13 kVi13 dci13 pmi13 cdi13 cti13 oci14 kVi14 dci14 pmi14 cdi14 cti14 : Value} {odd0 and0 odd1 and1 odd2 and2 odd3 and3 odd4 and4 odd5 and5 odd6 and6 odd7 and7 odd8 and8 odd9 and9 odd10 and10 : Option Addr} {sld0 sld1 sld2 sld3 sld4 sld5 sld6 sld7 sld8 sld9 sld10 : Array (Option Value)} {ocd0 kVd0 dcd0 pmd0 cdd0 ctd0 ocd1 kVd1 dcd1 pmd1 cdd1 ctd1 ocd2 kVd2 dcd2 pmd2 cdd2 ctd2 ocd3 kVd3 dcd3 pmd3 cdd3 ctd3 ocd4 kVd4 dcd4 pmd4 cdd4 ctd4 ocd5 kVd5 dcd5 pmd5 cdd5 ctd5 ocd6 kVd6 dcd6 pmd6 cdd6 ctd6 ocd7 kVd7 dcd7 pmd7 cdd7 ctd7 ocd8 kVd8 dcd8 pmd8 cdd8 ctd8 ocd9 kVd9 dcd9 pmd9 cdd9 ctd9 ocd10 kVd10 dcd10 pmd10 cdd10 ctd10 : Value} {t0 t1 t2 t3 t4 t5 t6 t7 t8 t9 t10 t11 t12 t13 t14 t15 t16 t17 t18 t19 t20 t21 t22 : Tok}
    (aC0 : PySem.W.nsIn K mainGlobals "BadText" = some (some (.ref C0)))
    (aC1 : PySem.W.nsIn K mainGlobals "BadPlan" = some (some (.ref C1)))
    (aC2 : PySem.W.nsIn K mainGlobals "BadWord" = some (some (.ref C2)))
    (aC3 : PySem.W.nsIn K mainGlobals "BadQuery" = some (some (.ref C3)))
    (aC4 : PySem.W.nsIn K mainGlobals "BadLine" = some (some (.ref C4)))
    (aC5 : PySem.W.nsIn K mainGlobals "BadComp" = some (some (.ref C5)))
    (aC6 : PySem.W.nsIn K mainGlobals "BadRoom" = some (some (.ref C6)))
    (aC7 : PySem.W.nsIn K mainGlobals "Outside" = some (some (.ref C7)))
    (aC8 : PySem.W.nsIn K mainGlobals "Faulty" = some (some (.ref C8)))
    (aC9 : PySem.W.nsIn K mainGlobals "BadEdit" = some (some (.ref C9)))
    (aC10 : PySem.W.nsIn K mainGlobals "Rejected" = some (some (.ref C10)))
    (aC11 : PySem.W.nsIn K mainGlobals "NoWord" = some (some (.ref C11)))
    (aC12 : PySem.W.nsIn K mainGlobals "NoVersion" = some (some (.ref C12)))
    (aC13 : PySem.W.nsIn K mainGlobals "BadPage" = some (some (.ref C13)))
    (aC14 : PySem.W.nsIn K mainGlobals "Unsure" = some (some (.ref C14)))
    (aC15 : PySem.W.nsIn K mainGlobals "Crowded" = some (some (.ref C15)))
    (aC16 : PySem.W.nsIn K mainGlobals "Full" = some (some (.ref C16)))
    (aC17 : PySem.W.nsIn K mainGlobals "Unlike" = some (some (.ref C17)))
    (aC18 : PySem.W.nsIn K mainGlobals "TooGreat" = some (some (.ref C18)))
    (aC19 : PySem.W.nsIn K mainGlobals "Busy" = some (some (.ref C19)))
    (aC20 : PySem.W.nsIn K mainGlobals "TooManyEdits" = some (some (.ref C20)))
    (aC21 : PySem.W.nsIn K mainGlobals "NothingToUndo" = some (some (.ref C21)))
    (aC22 : PySem.W.nsIn K mainGlobals "NothingToRedo" = some (some (.ref C22)))
    (aC23 : PySem.W.nsIn K mainGlobals "BadEdits" = some (some (.ref C23)))
    (aS : PySem.W.nsIn K mainGlobals "ShelfError" = some (some (.ref S)))
    (eC0 : ecB K C0 bV "ValueError.__new__" = true)
    (eC1 : ecB K C1 bV "ValueError.__new__" = true)
    (eC2 : ecB K C2 bV "ValueError.__new__" = true)
    (eC3 : ecB K C3 bV "ValueError.__new__" = true)
    (eC4 : ecB K C4 bV "ValueError.__new__" = true)
    (eC5 : ecB K C5 bV "ValueError.__new__" = true)
    (eC6 : ecB K C6 bV "ValueError.__new__" = true)
    (eC7 : ecB K C7 bV "ValueError.__new__" = true)
    (eC8 : ecB K C8 bV "ValueError.__new__" = true)
    (eC9 : ecB K C9 bV "ValueError.__new__" = true)
    (eC10 : ecB K C10 bV "ValueError.__new__" = true)
    (eC11 : ecB K C11 bL "LookupError.__new__" = true)
    (eC12 : ecB K C12 bL "LookupError.__new__" = true)
    (eC13 : ecB K C13 bV "ValueError.__new__" = true)
    (eC14 : ecB K C14 bV "ValueError.__new__" = true)
    (eC15 : ecB K C15 bV "ValueError.__new__" = true)
    (eC16 : ecB K C16 bV "ValueError.__new__" = true)
    (eC17 : ecB K C17 bV "ValueError.__new__" = true)
    (eC18 : ecB K C18 bV "ValueError.__new__" = true)
    (eC19 : ecB K C19 bV "ValueError.__new__" = true)
    (eC20 : ecB K C20 bV "ValueError.__new__" = true)
    (eC21 : ecB K C21 bV "ValueError.__new__" = true)
    (eC22 : ecB K C22 bV "ValueError.__new__" = true)
    (eC23 : ecB K C23 bV "ValueError.__new__" = true)
    (eS : ecB K S bV "ValueError.__new__" = true)
    (xS : PySem.W.excIn K S bV "ValueError.__new__" = true)
    (kS : PySem.W.keepIn K (.ref S) = true)
    (iC0 : PySem.W.findIn K (.ref C0) "__init__" = some (some (.ref i0)))
    (tI0 : PySem.W.typeIn K (.ref i0) = some (.type "function"))
    (lI0 : K.lookup i0 = some ⟨oci0, odi0, .func (PySem.W.fnOf "__init__" "BadText.__init__" (defArgs si_BadText) (defBody si_BadText) (defScope si_BadText) .none kVi0 dci0 pmi0 ani0 cdi0 cti0), sli0⟩)
    (cI0 : PySem.W.codeIn K cdi0 "BadText.__init__" = true)
    (kI0 : PySem.W.keepIn K (.ref i0) = true)
    (n0_0 : PySem.W.findIn K (.ref C0) "line" = some none)
    (iC1 : PySem.W.findIn K (.ref C1) "__init__" = some (some (.ref i1)))
    (tI1 : PySem.W.typeIn K (.ref i1) = some (.type "function"))
    (lI1 : K.lookup i1 = some ⟨oci1, odi1, .func (PySem.W.fnOf "__init__" "BadPlan.__init__" (defArgs si_BadPlan) (defBody si_BadPlan) (defScope si_BadPlan) .none kVi1 dci1 pmi1 ani1 cdi1 cti1), sli1⟩)
    (cI1 : PySem.W.codeIn K cdi1 "BadPlan.__init__" = true)
    (kI1 : PySem.W.keepIn K (.ref i1) = true)
    (n1_0 : PySem.W.findIn K (.ref C1) "error" = some none)
    (iC2 : PySem.W.findIn K (.ref C2) "__init__" = some (some (.ref i2)))
    (tI2 : PySem.W.typeIn K (.ref i2) = some (.type "function"))
    (lI2 : K.lookup i2 = some ⟨oci2, odi2, .func (PySem.W.fnOf "__init__" "BadWord.__init__" (defArgs si_BadWord) (defBody si_BadWord) (defScope si_BadWord) .none kVi2 dci2 pmi2 ani2 cdi2 cti2), sli2⟩)
    (cI2 : PySem.W.codeIn K cdi2 "BadWord.__init__" = true)
    (kI2 : PySem.W.keepIn K (.ref i2) = true)
    (n2_0 : PySem.W.findIn K (.ref C2) "word" = some none)
    (iC3 : PySem.W.findIn K (.ref C3) "__init__" = some (some (.ref i3)))
    (tI3 : PySem.W.typeIn K (.ref i3) = some (.type "function"))
    (lI3 : K.lookup i3 = some ⟨oci3, odi3, .func (PySem.W.fnOf "__init__" "BadQuery.__init__" (defArgs si_BadQuery) (defBody si_BadQuery) (defScope si_BadQuery) .none kVi3 dci3 pmi3 ani3 cdi3 cti3), sli3⟩)
    (cI3 : PySem.W.codeIn K cdi3 "BadQuery.__init__" = true)
    (kI3 : PySem.W.keepIn K (.ref i3) = true)
    (n3_0 : PySem.W.findIn K (.ref C3) "query" = some none)
    (iC4 : PySem.W.findIn K (.ref C4) "__init__" = some (some (.ref i4)))
    (tI4 : PySem.W.typeIn K (.ref i4) = some (.type "function"))
    (lI4 : K.lookup i4 = some ⟨oci4, odi4, .func (PySem.W.fnOf "__init__" "BadLine.__init__" (defArgs si_BadLine) (defBody si_BadLine) (defScope si_BadLine) .none kVi4 dci4 pmi4 ani4 cdi4 cti4), sli4⟩)
    (cI4 : PySem.W.codeIn K cdi4 "BadLine.__init__" = true)
    (kI4 : PySem.W.keepIn K (.ref i4) = true)
    (n4_0 : PySem.W.findIn K (.ref C4) "error" = some none)
    (iC5 : PySem.W.findIn K (.ref C5) "__init__" = some (some (.ref i5)))
    (tI5 : PySem.W.typeIn K (.ref i5) = some (.type "function"))
    (lI5 : K.lookup i5 = some ⟨oci5, odi5, .func (PySem.W.fnOf "__init__" "BadComp.__init__" (defArgs si_BadComp) (defBody si_BadComp) (defScope si_BadComp) .none kVi5 dci5 pmi5 ani5 cdi5 cti5), sli5⟩)
    (cI5 : PySem.W.codeIn K cdi5 "BadComp.__init__" = true)
    (kI5 : PySem.W.keepIn K (.ref i5) = true)
    (n5_0 : PySem.W.findIn K (.ref C5) "error" = some none)
    (iC6 : PySem.W.findIn K (.ref C6) "__init__" = some (some (.ref i6)))
    (tI6 : PySem.W.typeIn K (.ref i6) = some (.type "function"))
    (lI6 : K.lookup i6 = some ⟨oci6, odi6, .func (PySem.W.fnOf "__init__" "BadRoom.__init__" (defArgs si_BadRoom) (defBody si_BadRoom) (defScope si_BadRoom) .none kVi6 dci6 pmi6 ani6 cdi6 cti6), sli6⟩)
    (cI6 : PySem.W.codeIn K cdi6 "BadRoom.__init__" = true)
    (kI6 : PySem.W.keepIn K (.ref i6) = true)
    (n6_0 : PySem.W.findIn K (.ref C6) "room" = some none)
    (iC7 : PySem.W.findIn K (.ref C7) "__init__" = some (some (.ref i7)))
    (tI7 : PySem.W.typeIn K (.ref i7) = some (.type "function"))
    (lI7 : K.lookup i7 = some ⟨oci7, odi7, .func (PySem.W.fnOf "__init__" "Outside.__init__" (defArgs si_Outside) (defBody si_Outside) (defScope si_Outside) .none kVi7 dci7 pmi7 ani7 cdi7 cti7), sli7⟩)
    (cI7 : PySem.W.codeIn K cdi7 "Outside.__init__" = true)
    (kI7 : PySem.W.keepIn K (.ref i7) = true)
    (n7_0 : PySem.W.findIn K (.ref C7) "word" = some none)
    (iC8 : PySem.W.findIn K (.ref C8) "__init__" = some (some (.ref i8)))
    (tI8 : PySem.W.typeIn K (.ref i8) = some (.type "function"))
    (lI8 : K.lookup i8 = some ⟨oci8, odi8, .func (PySem.W.fnOf "__init__" "Faulty.__init__" (defArgs si_Faulty) (defBody si_Faulty) (defScope si_Faulty) .none kVi8 dci8 pmi8 ani8 cdi8 cti8), sli8⟩)
    (cI8 : PySem.W.codeIn K cdi8 "Faulty.__init__" = true)
    (kI8 : PySem.W.keepIn K (.ref i8) = true)
    (n8_0 : PySem.W.findIn K (.ref C8) "fault" = some none)
    (iC9 : PySem.W.findIn K (.ref C9) "__init__" = some (some (.ref i9)))
    (tI9 : PySem.W.typeIn K (.ref i9) = some (.type "function"))
    (lI9 : K.lookup i9 = some ⟨oci9, odi9, .func (PySem.W.fnOf "__init__" "BadEdit.__init__" (defArgs si_BadEdit) (defBody si_BadEdit) (defScope si_BadEdit) .none kVi9 dci9 pmi9 ani9 cdi9 cti9), sli9⟩)
    (cI9 : PySem.W.codeIn K cdi9 "BadEdit.__init__" = true)
    (kI9 : PySem.W.keepIn K (.ref i9) = true)
    (n9_0 : PySem.W.findIn K (.ref C9) "index" = some none)
    (iC10 : PySem.W.findIn K (.ref C10) "__init__" = some (some (.ref i10)))
    (tI10 : PySem.W.typeIn K (.ref i10) = some (.type "function"))
    (lI10 : K.lookup i10 = some ⟨oci10, odi10, .func (PySem.W.fnOf "__init__" "Rejected.__init__" (defArgs si_Rejected) (defBody si_Rejected) (defScope si_Rejected) .none kVi10 dci10 pmi10 ani10 cdi10 cti10), sli10⟩)
    (cI10 : PySem.W.codeIn K cdi10 "Rejected.__init__" = true)
    (kI10 : PySem.W.keepIn K (.ref i10) = true)
    (n10_0 : PySem.W.findIn K (.ref C10) "index" = some none)
    (iC11 : PySem.W.findIn K (.ref C11) "__init__" = some (some (.ref i11)))
    (tI11 : PySem.W.typeIn K (.ref i11) = some (.type "function"))
    (lI11 : K.lookup i11 = some ⟨oci11, odi11, .func (PySem.W.fnOf "__init__" "NoWord.__init__" (defArgs si_NoWord) (defBody si_NoWord) (defScope si_NoWord) .none kVi11 dci11 pmi11 ani11 cdi11 cti11), sli11⟩)
    (cI11 : PySem.W.codeIn K cdi11 "NoWord.__init__" = true)
    (kI11 : PySem.W.keepIn K (.ref i11) = true)
    (n11_0 : PySem.W.findIn K (.ref C11) "index" = some none)
    (iC12 : PySem.W.findIn K (.ref C12) "__init__" = some (some (.ref i12)))
    (tI12 : PySem.W.typeIn K (.ref i12) = some (.type "function"))
    (lI12 : K.lookup i12 = some ⟨oci12, odi12, .func (PySem.W.fnOf "__init__" "NoVersion.__init__" (defArgs si_NoVersion) (defBody si_NoVersion) (defScope si_NoVersion) .none kVi12 dci12 pmi12 ani12 cdi12 cti12), sli12⟩)
    (cI12 : PySem.W.codeIn K cdi12 "NoVersion.__init__" = true)
    (kI12 : PySem.W.keepIn K (.ref i12) = true)
    (n12_0 : PySem.W.findIn K (.ref C12) "version" = some none)
    (iC13 : PySem.W.findIn K (.ref C13) "__init__" = some (some (.ref i13)))
    (tI13 : PySem.W.typeIn K (.ref i13) = some (.type "function"))
    (lI13 : K.lookup i13 = some ⟨oci13, odi13, .func (PySem.W.fnOf "__init__" "BadPage.__init__" (defArgs si_BadPage) (defBody si_BadPage) (defScope si_BadPage) .none kVi13 dci13 pmi13 ani13 cdi13 cti13), sli13⟩)
    (cI13 : PySem.W.codeIn K cdi13 "BadPage.__init__" = true)
    (kI13 : PySem.W.keepIn K (.ref i13) = true)
    (n13_0 : PySem.W.findIn K (.ref C13) "first" = some none)
    (n13_1 : PySem.W.findIn K (.ref C13) "many" = some none)
    (iC14 : PySem.W.findIn K (.ref C14) "__init__" = some (some (.ref i14)))
    (tI14 : PySem.W.typeIn K (.ref i14) = some (.type "function"))
    (lI14 : K.lookup i14 = some ⟨oci14, odi14, .func (PySem.W.fnOf "__init__" "Unsure.__init__" (defArgs si_Unsure) (defBody si_Unsure) (defScope si_Unsure) .none kVi14 dci14 pmi14 ani14 cdi14 cti14), sli14⟩)
    (cI14 : PySem.W.codeIn K cdi14 "Unsure.__init__" = true)
    (kI14 : PySem.W.keepIn K (.ref i14) = true)
    (n14_0 : PySem.W.findIn K (.ref C14) "reason" = some none)
    (n14_1 : PySem.W.findIn K (.ref C14) "evidence" = some none)
    (x15 : PySem.W.excIn K C15 bV "ValueError.__new__" = true)
    (kC15 : PySem.W.keepIn K (.ref C15) = true)
    (x16 : PySem.W.excIn K C16 bV "ValueError.__new__" = true)
    (kC16 : PySem.W.keepIn K (.ref C16) = true)
    (x17 : PySem.W.excIn K C17 bV "ValueError.__new__" = true)
    (kC17 : PySem.W.keepIn K (.ref C17) = true)
    (x18 : PySem.W.excIn K C18 bV "ValueError.__new__" = true)
    (kC18 : PySem.W.keepIn K (.ref C18) = true)
    (x19 : PySem.W.excIn K C19 bV "ValueError.__new__" = true)
    (kC19 : PySem.W.keepIn K (.ref C19) = true)
    (x20 : PySem.W.excIn K C20 bV "ValueError.__new__" = true)
    (kC20 : PySem.W.keepIn K (.ref C20) = true)
    (x21 : PySem.W.excIn K C21 bV "ValueError.__new__" = true)
    (kC21 : PySem.W.keepIn K (.ref C21) = true)
    (x22 : PySem.W.excIn K C22 bV "ValueError.__new__" = true)
    (kC22 : PySem.W.keepIn K (.ref C22) = true)
    (x23 : PySem.W.excIn K C23 bV "ValueError.__new__" = true)
    (kC23 : PySem.W.keepIn K (.ref C23) = true)
    (kit : kitAll K [C0, C1, C2, C3, C4, C5, C6, C7, C8, C9, C10, C11, C12, C13, C14, C15, C16, C17, C18, C19, C20, C21, C22, C23] S = true)
    (s3 : sAll3 K S = true)
    (a0 : PySem.W.nsIn K mainGlobals "_law_deck" = some (some (.ref f0)))
    (l0 : K.lookup f0 = some ⟨ocd0, odd0, .func (PySem.W.fnOf "_law_deck" "_law_deck" (defArgs sDeck) (defBody sDeck) (defScope sDeck) .none kVd0 dcd0 pmd0 and0 cdd0 ctd0), sld0⟩)
    (c0 : PySem.W.codeIn K cdd0 "_law_deck" = true)
    (k0 : PySem.W.keepIn K (.ref f0) = true)
    (a1 : PySem.W.nsIn K mainGlobals "_law_draw" = some (some (.ref f1)))
    (l1 : K.lookup f1 = some ⟨ocd1, odd1, .func (PySem.W.fnOf "_law_draw" "_law_draw" (defArgs sDraw) (defBody sDraw) (defScope sDraw) .none kVd1 dcd1 pmd1 and1 cdd1 ctd1), sld1⟩)
    (c1 : PySem.W.codeIn K cdd1 "_law_draw" = true)
    (k1 : PySem.W.keepIn K (.ref f1) = true)
    (a2 : PySem.W.nsIn K mainGlobals "_law_one" = some (some (.ref f2)))
    (l2 : K.lookup f2 = some ⟨ocd2, odd2, .func (PySem.W.fnOf "_law_one" "_law_one" (defArgs sOne) (defBody sOne) (defScope sOne) .none kVd2 dcd2 pmd2 and2 cdd2 ctd2), sld2⟩)
    (c2 : PySem.W.codeIn K cdd2 "_law_one" = true)
    (k2 : PySem.W.keepIn K (.ref f2) = true)
    (a3 : PySem.W.nsIn K mainGlobals "_law_odd" = some (some (.ref f3)))
    (l3 : K.lookup f3 = some ⟨ocd3, odd3, .func (PySem.W.fnOf "_law_odd" "_law_odd" (defArgs sOdd) (defBody sOdd) (defScope sOdd) .none kVd3 dcd3 pmd3 and3 cdd3 ctd3), sld3⟩)
    (c3 : PySem.W.codeIn K cdd3 "_law_odd" = true)
    (k3 : PySem.W.keepIn K (.ref f3) = true)
    (a4 : PySem.W.nsIn K mainGlobals "_law_first_classes" = some (some (.ref f4)))
    (l4 : K.lookup f4 = some ⟨ocd4, odd4, .func (PySem.W.fnOf "_law_first_classes" "_law_first_classes" (defArgs sFirst) (defBody sFirst) (defScope sFirst) .none kVd4 dcd4 pmd4 and4 cdd4 ctd4), sld4⟩)
    (c4 : PySem.W.codeIn K cdd4 "_law_first_classes" = true)
    (k4 : PySem.W.keepIn K (.ref f4) = true)
    (a5 : PySem.W.nsIn K mainGlobals "_law_classes" = some (some (.ref f5)))
    (l5 : K.lookup f5 = some ⟨ocd5, odd5, .func (PySem.W.fnOf "_law_classes" "_law_classes" (defArgs sClasses) (defBody sClasses) (defScope sClasses) .none kVd5 dcd5 pmd5 and5 cdd5 ctd5), sld5⟩)
    (c5 : PySem.W.codeIn K cdd5 "_law_classes" = true)
    (k5 : PySem.W.keepIn K (.ref f5) = true)
    (a6 : PySem.W.nsIn K mainGlobals "_law_all" = some (some (.ref f6)))
    (l6 : K.lookup f6 = some ⟨ocd6, odd6, .func (PySem.W.fnOf "_law_all" "_law_all" (defArgs sAll) (defBody sAll) (defScope sAll) .none kVd6 dcd6 pmd6 and6 cdd6 ctd6), sld6⟩)
    (c6 : PySem.W.codeIn K cdd6 "_law_all" = true)
    (k6 : PySem.W.keepIn K (.ref f6) = true)
    (a7 : PySem.W.nsIn K mainGlobals "_law_fields" = some (some (.ref f7)))
    (l7 : K.lookup f7 = some ⟨ocd7, odd7, .func (PySem.W.fnOf "_law_fields" "_law_fields" (defArgs sFields) (defBody sFields) (defScope sFields) .none kVd7 dcd7 pmd7 and7 cdd7 ctd7), sld7⟩)
    (c7 : PySem.W.codeIn K cdd7 "_law_fields" = true)
    (k7 : PySem.W.keepIn K (.ref f7) = true)
    (a8 : PySem.W.nsIn K mainGlobals "_law_named" = some (some (.ref f8)))
    (l8 : K.lookup f8 = some ⟨ocd8, odd8, .func (PySem.W.fnOf "_law_named" "_law_named" (defArgs sNamed) (defBody sNamed) (defScope sNamed) .none kVd8 dcd8 pmd8 and8 cdd8 ctd8), sld8⟩)
    (c8 : PySem.W.codeIn K cdd8 "_law_named" = true)
    (k8 : PySem.W.keepIn K (.ref f8) = true)
    (a9 : PySem.W.nsIn K mainGlobals "_law_bounds_right" = some (some (.ref f9)))
    (l9 : K.lookup f9 = some ⟨ocd9, odd9, .func (PySem.W.fnOf "_law_bounds_right" "_law_bounds_right" (defArgs sBounds) (defBody sBounds) (defScope sBounds) .none kVd9 dcd9 pmd9 and9 cdd9 ctd9), sld9⟩)
    (c9 : PySem.W.codeIn K cdd9 "_law_bounds_right" = true)
    (k9 : PySem.W.keepIn K (.ref f9) = true)
    (a10 : PySem.W.nsIn K mainGlobals "law" = some (some (.ref f10)))
    (l10 : K.lookup f10 = some ⟨ocd10, odd10, .func (PySem.W.fnOf "law" "law" (defArgs sLaw) (defBody sLaw) (defScope sLaw) .none kVd10 dcd10 pmd10 and10 cdd10 ctd10), sld10⟩)
    (c10 : PySem.W.codeIn K cdd10 "law" = true)
    (k10 : PySem.W.keepIn K (.ref f10) = true)
    (z0 : PySem.W.nsIn K mainGlobals "abs" = some none)
    (z1 : PySem.W.nsIn K mainGlobals "len" = some none)
    (z2 : PySem.W.nsIn K mainGlobals "int" = some none)
    (z3 : PySem.W.nsIn K mainGlobals "isinstance" = some none)
    (z4 : PySem.W.nsIn K mainGlobals "range" = some none)
    (z5 : PySem.W.nsIn K mainGlobals "repr" = some none)
    (z6 : PySem.W.nsIn K mainGlobals "ValueError" = some none)
    (z7 : PySem.W.nsIn K mainGlobals "LookupError" = some none)
    (m0 : PySem.W.nsIn K mainGlobals "MAX_LETTERS" = some (some (.int 3 t0)))
    (m1 : PySem.W.nsIn K mainGlobals "MAX_ROWS" = some (some (.int 400 t1)))
    (m2 : PySem.W.nsIn K mainGlobals "MAX_STATES" = some (some (.int 6 t2)))
    (m3 : PySem.W.nsIn K mainGlobals "MAX_LENGTH" = some (some (.int 400 t3)))
    (m4 : PySem.W.nsIn K mainGlobals "MAX_TOLD" = some (some (.int 60 t4)))
    (m5 : PySem.W.nsIn K mainGlobals "MAX_WORTH" = some (some (.int 99 t5)))
    (m6 : PySem.W.nsIn K mainGlobals "MAX_COUNT" = some (some (.int 9 t6)))
    (m7 : PySem.W.nsIn K mainGlobals "MAX_MOST" = some (some (.int 200 t7)))
    (m8 : PySem.W.nsIn K mainGlobals "MAX_CUT" = some (some (.int 30 t8)))
    (m9 : PySem.W.nsIn K mainGlobals "MAX_PASS" = some (some (.int 4 t9)))
    (m10 : PySem.W.nsIn K mainGlobals "MAX_PAIRS" = some (some (.int 4 t10)))
    (m11 : PySem.W.nsIn K mainGlobals "MAX_PIECE" = some (some (.int 2 t11)))
    (m12 : PySem.W.nsIn K mainGlobals "MAX_LINE" = some (some (.int 3 t12)))
    (m13 : PySem.W.nsIn K mainGlobals "MAX_STANDS" = some (some (.int 60 t13)))
    (m14 : PySem.W.nsIn K mainGlobals "MAX_LEADERS" = some (some (.int 12 t14)))
    (m15 : PySem.W.nsIn K mainGlobals "MAX_ASKED" = some (some (.int 20 t15)))
    (m16 : PySem.W.nsIn K mainGlobals "MAX_DEPTH" = some (some (.int 4 t16)))
    (m17 : PySem.W.nsIn K mainGlobals "MAX_ROOM" = some (some (.int 1000000 t17)))
    (m18 : PySem.W.nsIn K mainGlobals "MAX_WORDS" = some (some (.int 60 t18)))
    (m19 : PySem.W.nsIn K mainGlobals "MAX_LONG" = some (some (.int 200 t19)))
    (m20 : PySem.W.nsIn K mainGlobals "MAX_EDITS" = some (some (.int 80 t20)))
    (m21 : PySem.W.nsIn K mainGlobals "BATCH" = some (some (.int 20 t21)))
    (m22 : PySem.W.nsIn K mainGlobals "MAX_ENTRIES" = some (some (.int 120 t22))) :
    ∃ fd : FuncData, (∀ (s : Shared) (v : Value), BindsTo s fd ⟨[v], []⟩ [("_law_script", v)]) ∧ ∀ base : Heap, K.In base → base.Ns mainGlobals mg → GRun l.prog w K mg base 4 fa fd ["_law_script"] (spLaw K) := by
  have e := hfa.symm.trans (PySem.W.mg_of inK atG a10)
  cases e
  have T : Nm mg := ⟨PySem.W.mg_none_of inK atG z0, PySem.W.mg_none_of inK atG z1, PySem.W.mg_none_of inK atG z2, PySem.W.mg_none_of inK atG z3, PySem.W.mg_none_of inK atG z4, PySem.W.mg_none_of inK atG z5, PySem.W.mg_none_of inK atG z6, PySem.W.mg_none_of inK atG z7⟩
  have B : Bn mg := ⟨⟨_, PySem.W.mg_of inK atG m0⟩, ⟨_, PySem.W.mg_of inK atG m1⟩, ⟨_, PySem.W.mg_of inK atG m2⟩, ⟨_, PySem.W.mg_of inK atG m3⟩, ⟨_, PySem.W.mg_of inK atG m4⟩, ⟨_, PySem.W.mg_of inK atG m5⟩, ⟨_, PySem.W.mg_of inK atG m6⟩, ⟨_, PySem.W.mg_of inK atG m7⟩, ⟨_, PySem.W.mg_of inK atG m8⟩, ⟨_, PySem.W.mg_of inK atG m9⟩, ⟨_, PySem.W.mg_of inK atG m10⟩, ⟨_, PySem.W.mg_of inK atG m11⟩, ⟨_, PySem.W.mg_of inK atG m12⟩, ⟨_, PySem.W.mg_of inK atG m13⟩, ⟨_, PySem.W.mg_of inK atG m14⟩, ⟨_, PySem.W.mg_of inK atG m15⟩, ⟨_, PySem.W.mg_of inK atG m16⟩, ⟨_, PySem.W.mg_of inK atG m17⟩, ⟨_, PySem.W.mg_of inK atG m18⟩, ⟨_, PySem.W.mg_of inK atG m19⟩, ⟨_, PySem.W.mg_of inK atG m20⟩, ⟨_, PySem.W.mg_of inK atG m21⟩, ⟨_, PySem.W.mg_of inK atG m22⟩⟩
  have E0 : EC K C0 := ecV eC0
  have E1 : EC K C1 := ecV eC1
  have E2 : EC K C2 := ecV eC2
  have E3 : EC K C3 := ecV eC3
  have E4 : EC K C4 := ecV eC4
  have E5 : EC K C5 := ecV eC5
  have E6 : EC K C6 := ecV eC6
  have E7 : EC K C7 := ecV eC7
  have E8 : EC K C8 := ecV eC8
  have E9 : EC K C9 := ecV eC9
  have E10 : EC K C10 := ecV eC10
  have E11 : EC K C11 := ecL eC11
  have E12 : EC K C12 := ecL eC12
  have E13 : EC K C13 := ecV eC13
  have E14 : EC K C14 := ecV eC14
  have E15 : EC K C15 := ecV eC15
  have E16 : EC K C16 := ecV eC16
  have E17 : EC K C17 := ecV eC17
  have E18 : EC K C18 := ecV eC18
  have E19 : EC K C19 := ecV eC19
  have E20 : EC K C20 := ecV eC20
  have E21 : EC K C21 := ecV eC21
  have E22 : EC K C22 := ecV eC22
  have E23 : EC K C23 := ecV eC23
  have ES : EC K S := ecV eS
  have s3 := s3
  unfold sAll3 at s3
  rw [Bool.and_eq_true, beq_iff_eq, beq_iff_eq] at s3
  have L : Cs K mg (fun i => ([C0, C1, C2, C3, C4, C5, C6, C7, C8, C9, C10, C11, C12, C13, C14, C15, C16, C17, C18, C19, C20, C21, C22, C23] : List Addr).getD i 0) S := ⟨all24 (P := fun i => EC K (([C0, C1, C2, C3, C4, C5, C6, C7, C8, C9, C10, C11, C12, C13, C14, C15, C16, C17, C18, C19, C20, C21, C22, C23] : List Addr).getD i 0)) ⟨E0, E1, E2, E3, E4, E5, E6, E7, E8, E9, E10, E11, E12, E13, E14, E15, E16, E17, E18, E19, E20, E21, E22, E23⟩, fun i j hi hj => (kitAll_ok kit hi).1 j hj, fun i hi => (kitAll_ok kit hi).2.1, fun i hi => (kitAll_ok kit hi).2.2.1, fun i hi => (kitAll_ok kit hi).2.2.2, ES, s3.1, s3.2, PySem.W.mg_of inK atG aS, PySem.W.mg_of inK atG aC0, PySem.W.mg_of inK atG aC1, PySem.W.mg_of inK atG aC2, PySem.W.mg_of inK atG aC3, PySem.W.mg_of inK atG aC4, PySem.W.mg_of inK atG aC5, PySem.W.mg_of inK atG aC6, PySem.W.mg_of inK atG aC7, PySem.W.mg_of inK atG aC8, PySem.W.mg_of inK atG aC9, PySem.W.mg_of inK atG aC10, PySem.W.mg_of inK atG aC11, PySem.W.mg_of inK atG aC12, PySem.W.mg_of inK atG aC13, PySem.W.mg_of inK atG aC14, PySem.W.mg_of inK atG aC15, PySem.W.mg_of inK atG aC16, PySem.W.mg_of inK atG aC17, PySem.W.mg_of inK atG aC18, PySem.W.mg_of inK atG aC19, PySem.W.mg_of inK atG aC20, PySem.W.mg_of inK atG aC21, PySem.W.mg_of inK atG aC22, PySem.W.mg_of inK atG aC23⟩
  have F0 := fun_mk (st := sDeck) l0 c0 k0
  have b0 := F0.binds (ps := ["_law_script"]) fun _ _ _ _ _ _ us hl => match us, hl with | [_], _ => rfl
  have g0 := PySem.W.mg_of inK atG a0
  have F1 := fun_mk (st := sDraw) l1 c1 k1
  have b1 := F1.binds (ps := ["_law_deck_here", "_law_many1"]) fun _ _ _ _ _ _ us hl => match us, hl with | [_, _], _ => rfl
  have g1 := PySem.W.mg_of inK atG a1
  have F2 := fun_mk (st := sOne) l2 c2 k2
  have b2 := F2.binds (ps := ["_law_deck_here", "_law_items"]) fun _ _ _ _ _ _ us hl => match us, hl with | [_, _], _ => rfl
  have g2 := PySem.W.mg_of inK atG a2
  have F3 := fun_mk (st := sOdd) l3 c3 k3
  have b3 := F3.binds (ps := ["_law_deck_here"]) fun _ _ _ _ _ _ us hl => match us, hl with | [_], _ => rfl
  have g3 := PySem.W.mg_of inK atG a3
  have F4 := fun_mk (st := sFirst) l4 c4 k4
  have b4 := F4.binds (ps := ["_law_error1"]) fun _ _ _ _ _ _ us hl => match us, hl with | [_], _ => rfl
  have g4 := PySem.W.mg_of inK atG a4
  have F5 := fun_mk (st := sClasses) l5 c5 k5
  have b5 := F5.binds (ps := ["_law_error1"]) fun _ _ _ _ _ _ us hl => match us, hl with | [_], _ => rfl
  have g5 := PySem.W.mg_of inK atG a5
  have F6 := fun_mk (st := sAll) l6 c6 k6
  have b6 := F6.binds (ps := ["_law_one_here", "_law_other"]) fun _ _ _ _ _ _ us hl => match us, hl with | [_, _], _ => rfl
  have g6 := PySem.W.mg_of inK atG a6
  have F7 := fun_mk (st := sFields) l7 c7 k7
  have b7 := F7.binds (ps := ["_law_some"]) fun _ _ _ _ _ _ us hl => match us, hl with | [_], _ => rfl
  have g7 := PySem.W.mg_of inK atG a7
  have F8 := fun_mk (st := sNamed) l8 c8 k8
  have b8 := F8.binds (ps := ["_law_one_here", "_law_other"]) fun _ _ _ _ _ _ us hl => match us, hl with | [_, _], _ => rfl
  have g8 := PySem.W.mg_of inK atG a8
  have F9 := fun_mk (st := sBounds) l9 c9 k9
  have b9 := F9.binds (ps := []) fun _ _ _ _ _ _ us hl => match us, hl with | [], _ => rfl
  have g9 := PySem.W.mg_of inK atG a9
  have F10 := fun_mk (st := sLaw) l10 c10 k10
  have Q0 := fun_mk (st := si_BadText) lI0 cI0 kI0
  have q0 := Q0.binds (ps := ["self", "line"]) fun _ _ _ _ _ _ us hl => match us, hl with | [_, _], _ => rfl
  have Q1 := fun_mk (st := si_BadPlan) lI1 cI1 kI1
  have q1 := Q1.binds (ps := ["self", "error"]) fun _ _ _ _ _ _ us hl => match us, hl with | [_, _], _ => rfl
  have Q2 := fun_mk (st := si_BadWord) lI2 cI2 kI2
  have q2 := Q2.binds (ps := ["self", "word"]) fun _ _ _ _ _ _ us hl => match us, hl with | [_, _], _ => rfl
  have Q3 := fun_mk (st := si_BadQuery) lI3 cI3 kI3
  have q3 := Q3.binds (ps := ["self", "query"]) fun _ _ _ _ _ _ us hl => match us, hl with | [_, _], _ => rfl
  have Q4 := fun_mk (st := si_BadLine) lI4 cI4 kI4
  have q4 := Q4.binds (ps := ["self", "error"]) fun _ _ _ _ _ _ us hl => match us, hl with | [_, _], _ => rfl
  have Q5 := fun_mk (st := si_BadComp) lI5 cI5 kI5
  have q5 := Q5.binds (ps := ["self", "error"]) fun _ _ _ _ _ _ us hl => match us, hl with | [_, _], _ => rfl
  have Q6 := fun_mk (st := si_BadRoom) lI6 cI6 kI6
  have q6 := Q6.binds (ps := ["self", "room"]) fun _ _ _ _ _ _ us hl => match us, hl with | [_, _], _ => rfl
  have Q7 := fun_mk (st := si_Outside) lI7 cI7 kI7
  have q7 := Q7.binds (ps := ["self", "word"]) fun _ _ _ _ _ _ us hl => match us, hl with | [_, _], _ => rfl
  have Q8 := fun_mk (st := si_Faulty) lI8 cI8 kI8
  have q8 := Q8.binds (ps := ["self", "fault"]) fun _ _ _ _ _ _ us hl => match us, hl with | [_, _], _ => rfl
  have Q9 := fun_mk (st := si_BadEdit) lI9 cI9 kI9
  have q9 := Q9.binds (ps := ["self", "index"]) fun _ _ _ _ _ _ us hl => match us, hl with | [_, _], _ => rfl
  have Q10 := fun_mk (st := si_Rejected) lI10 cI10 kI10
  have q10 := Q10.binds (ps := ["self", "index"]) fun _ _ _ _ _ _ us hl => match us, hl with | [_, _], _ => rfl
  have Q11 := fun_mk (st := si_NoWord) lI11 cI11 kI11
  have q11 := Q11.binds (ps := ["self", "index"]) fun _ _ _ _ _ _ us hl => match us, hl with | [_, _], _ => rfl
  have Q12 := fun_mk (st := si_NoVersion) lI12 cI12 kI12
  have q12 := Q12.binds (ps := ["self", "version"]) fun _ _ _ _ _ _ us hl => match us, hl with | [_, _], _ => rfl
  have Q13 := fun_mk (st := si_BadPage) lI13 cI13 kI13
  have q13 := Q13.binds (ps := ["self", "first", "many"]) fun _ _ _ _ _ _ us hl => match us, hl with | [_, _, _], _ => rfl
  have Q14 := fun_mk (st := si_Unsure) lI14 cI14 kI14
  have q14 := Q14.binds (ps := ["self", "reason", "evidence"]) fun _ _ _ _ _ _ us hl => match us, hl with | [_, _, _], _ => rfl
  refine ⟨PySem.W.fnOf "law" "law" (defArgs sLaw) (defBody sLaw) (defScope sLaw) .none kVd10 dcd10 pmd10 and10 cdd10 ctd10, fun s v => .of_eq rfl, fun base _ _ => ?_⟩
  have M0 : Ver.C1 l.prog w K mg base "BadText" C0 "line" := ⟨E0, PySem.W.mg_of inK atG aC0, n0_0, _, _, iC0, tI0, oi_BadText Q0 E0 n0_0, q0, ⟨fun s us ws X l1 l2 => match us, ws, l1, l2 with | [_], [_], _, _ => .of_eq rfl, fun r1 r2 => r1.append r2⟩⟩
  have M1 : Ver.C1 l.prog w K mg base "BadPlan" C1 "error" := ⟨E1, PySem.W.mg_of inK atG aC1, n1_0, _, _, iC1, tI1, oi_BadPlan Q1 E1 n1_0, q1, ⟨fun s us ws X l1 l2 => match us, ws, l1, l2 with | [_], [_], _, _ => .of_eq rfl, fun r1 r2 => r1.append r2⟩⟩
  have M2 : Ver.C1 l.prog w K mg base "BadWord" C2 "word" := ⟨E2, PySem.W.mg_of inK atG aC2, n2_0, _, _, iC2, tI2, oi_BadWord Q2 E2 n2_0, q2, ⟨fun s us ws X l1 l2 => match us, ws, l1, l2 with | [_], [_], _, _ => .of_eq rfl, fun r1 r2 => r1.append r2⟩⟩
  have M3 : Ver.C1 l.prog w K mg base "BadQuery" C3 "query" := ⟨E3, PySem.W.mg_of inK atG aC3, n3_0, _, _, iC3, tI3, oi_BadQuery Q3 E3 n3_0, q3, ⟨fun s us ws X l1 l2 => match us, ws, l1, l2 with | [_], [_], _, _ => .of_eq rfl, fun r1 r2 => r1.append r2⟩⟩
  have M4 : Ver.C1 l.prog w K mg base "BadLine" C4 "error" := ⟨E4, PySem.W.mg_of inK atG aC4, n4_0, _, _, iC4, tI4, oi_BadLine Q4 E4 n4_0, q4, ⟨fun s us ws X l1 l2 => match us, ws, l1, l2 with | [_], [_], _, _ => .of_eq rfl, fun r1 r2 => r1.append r2⟩⟩
  have M5 : Ver.C1 l.prog w K mg base "BadComp" C5 "error" := ⟨E5, PySem.W.mg_of inK atG aC5, n5_0, _, _, iC5, tI5, oi_BadComp Q5 E5 n5_0, q5, ⟨fun s us ws X l1 l2 => match us, ws, l1, l2 with | [_], [_], _, _ => .of_eq rfl, fun r1 r2 => r1.append r2⟩⟩
  have M6 : Ver.C1 l.prog w K mg base "BadRoom" C6 "room" := ⟨E6, PySem.W.mg_of inK atG aC6, n6_0, _, _, iC6, tI6, oi_BadRoom Q6 E6 n6_0, q6, ⟨fun s us ws X l1 l2 => match us, ws, l1, l2 with | [_], [_], _, _ => .of_eq rfl, fun r1 r2 => r1.append r2⟩⟩
  have M7 : Ver.C1 l.prog w K mg base "Outside" C7 "word" := ⟨E7, PySem.W.mg_of inK atG aC7, n7_0, _, _, iC7, tI7, oi_Outside Q7 E7 n7_0, q7, ⟨fun s us ws X l1 l2 => match us, ws, l1, l2 with | [_], [_], _, _ => .of_eq rfl, fun r1 r2 => r1.append r2⟩⟩
  have M8 : Ver.C1 l.prog w K mg base "Faulty" C8 "fault" := ⟨E8, PySem.W.mg_of inK atG aC8, n8_0, _, _, iC8, tI8, oi_Faulty Q8 E8 n8_0, q8, ⟨fun s us ws X l1 l2 => match us, ws, l1, l2 with | [_], [_], _, _ => .of_eq rfl, fun r1 r2 => r1.append r2⟩⟩
  have M9 : Ver.C1 l.prog w K mg base "BadEdit" C9 "index" := ⟨E9, PySem.W.mg_of inK atG aC9, n9_0, _, _, iC9, tI9, oi_BadEdit Q9 E9 n9_0, q9, ⟨fun s us ws X l1 l2 => match us, ws, l1, l2 with | [_], [_], _, _ => .of_eq rfl, fun r1 r2 => r1.append r2⟩⟩
  have M10 : Ver.C1 l.prog w K mg base "Rejected" C10 "index" := ⟨E10, PySem.W.mg_of inK atG aC10, n10_0, _, _, iC10, tI10, oi_Rejected Q10 E10 n10_0, q10, ⟨fun s us ws X l1 l2 => match us, ws, l1, l2 with | [_], [_], _, _ => .of_eq rfl, fun r1 r2 => r1.append r2⟩⟩
  have M11 : Ver.C1 l.prog w K mg base "NoWord" C11 "index" := ⟨E11, PySem.W.mg_of inK atG aC11, n11_0, _, _, iC11, tI11, oi_NoWord Q11 E11 n11_0, q11, ⟨fun s us ws X l1 l2 => match us, ws, l1, l2 with | [_], [_], _, _ => .of_eq rfl, fun r1 r2 => r1.append r2⟩⟩
  have M12 : Ver.C1 l.prog w K mg base "NoVersion" C12 "version" := ⟨E12, PySem.W.mg_of inK atG aC12, n12_0, _, _, iC12, tI12, oi_NoVersion Q12 E12 n12_0, q12, ⟨fun s us ws X l1 l2 => match us, ws, l1, l2 with | [_], [_], _, _ => .of_eq rfl, fun r1 r2 => r1.append r2⟩⟩
  have M13 : Ver.C2 l.prog w K mg base "BadPage" C13 "first" "many" := ⟨E13, PySem.W.mg_of inK atG aC13, n13_0, n13_1, _, _, iC13, tI13, oi_BadPage Q13 E13 n13_0 n13_1, q13, ⟨fun s us ws X l1 l2 => match us, ws, l1, l2 with | [_], [_, _], _, _ => .of_eq rfl, fun r1 r2 => r1.append (vals_rev r2)⟩⟩
  have M14 : Ver.C2 l.prog w K mg base "Unsure" C14 "reason" "evidence" := ⟨E14, PySem.W.mg_of inK atG aC14, n14_0, n14_1, _, _, iC14, tI14, oi_Unsure Q14 E14 n14_0 n14_1, q14, ⟨fun s us ws X l1 l2 => match us, ws, l1, l2 with | [_], [_, _], _, _ => .of_eq rfl, fun r1 r2 => r1.append (vals_rev r2)⟩⟩
  have M15 : Ver.C0 K mg "Crowded" C15 := ⟨PySem.W.mg_of inK atG aC15, kC15, x15⟩
  have M16 : Ver.C0 K mg "Full" C16 := ⟨PySem.W.mg_of inK atG aC16, kC16, x16⟩
  have M17 : Ver.C0 K mg "Unlike" C17 := ⟨PySem.W.mg_of inK atG aC17, kC17, x17⟩
  have M18 : Ver.C0 K mg "TooGreat" C18 := ⟨PySem.W.mg_of inK atG aC18, kC18, x18⟩
  have M19 : Ver.C0 K mg "Busy" C19 := ⟨PySem.W.mg_of inK atG aC19, kC19, x19⟩
  have M20 : Ver.C0 K mg "TooManyEdits" C20 := ⟨PySem.W.mg_of inK atG aC20, kC20, x20⟩
  have M21 : Ver.C0 K mg "NothingToUndo" C21 := ⟨PySem.W.mg_of inK atG aC21, kC21, x21⟩
  have M22 : Ver.C0 K mg "NothingToRedo" C22 := ⟨PySem.W.mg_of inK atG aC22, kC22, x22⟩
  have M23 : Ver.C0 K mg "BadEdits" C23 := ⟨PySem.W.mg_of inK atG aC23, kC23, x23⟩
  have M : Ms l.prog w K mg base (fun i => ([C0, C1, C2, C3, C4, C5, C6, C7, C8, C9, C10, C11, C12, C13, C14, C15, C16, C17, C18, C19, C20, C21, C22, C23] : List Addr).getD i 0) := ⟨M0, M1, M2, M3, M4, M5, M6, M7, M8, M9, M10, M11, M12, M13, M14, M15, M16, M17, M18, M19, M20, M21, M22, M23⟩
  have DK := ok_deck (P := l.prog) (w := w) (mg := mg) (base := base) F0 T.abs
  have D := ok_draw (P := l.prog) (w := w) (mg := mg) (base := base) F1 T.len T.int
  have O := ok_one F2 D F1 b1 g1 T.len
  have OD := ok_odd F3 O F2 b2 g2
  have FI := ok_first (P := l.prog) (w := w) (base := base) F4 T L
  have CL := ok_classes F5 FI F4 b4 g4 T L
  have AL := ok_all F6 M
  have FS := ok_fields F7 M
  have NA := ok_named F8 M
  have BD := ok_bounds (P := l.prog) (w := w) (K := K) (base := base) F9 T B
  exact ok_law F10 DK F0 b0 g0 O F2 b2 g2 OD F3 b3 g3 AL F6 b6 g6 CL F5 b5 g5 FS F7 b7 g7 NA F8 b8 g8 BD F9 b9 g9 T L M ⟨PySem.W.mg_of inK atG aS, kS, xS⟩
end Ver
open PySem PySem.W PyProof.Rows in
set_option maxRecDepth 100000 in
set_option maxHeartbeats 0 in
theorem PySem.Challenge.cw_sortedshelves_k00_errors_made_by_hand_holds : PySem.Challenge.rw_sortedshelves_k00_errors_made_by_hand.Holds := by
  w_on; o_law; k_head; (case hw => w_witness2)
  k_fill
  refine Ver.gwalk (l := PySem.Challenge.rw_sortedshelves_k00_errors_made_by_hand) (n := 63) (k := 4) (x := "_law_script") (sp := fun w => Ver.spLaw _) rfl (by decide) rfl ⟨rfl, by decide, by decide⟩ (fun w h Y => PySem.W.kIn_of Y) ?F (fun _ _ a ns hl hS => ⟨a, ns, rfl, hS, hl, fun _ => rfl⟩)
  case F =>
    intro w mg fa h inK atG hmg
    refine' Ver.all_mk inK atG hmg ?aC0 ?aC1 ?aC2 ?aC3 ?aC4 ?aC5 ?aC6 ?aC7 ?aC8 ?aC9 ?aC10 ?aC11 ?aC12 ?aC13 ?aC14 ?aC15 ?aC16 ?aC17 ?aC18 ?aC19 ?aC20 ?aC21 ?aC22 ?aC23 ?aS ?eC0 ?eC1 ?eC2 ?eC3 ?eC4 ?eC5 ?eC6 ?eC7 ?eC8 ?eC9 ?eC10 ?eC11 ?eC12 ?eC13 ?eC14 ?eC15 ?eC16 ?eC17 ?eC18 ?eC19 ?eC20 ?eC21 ?eC22 ?eC23 ?eS ?xS ?kS ?iC0 ?tI0 ?lI0 ?cI0 ?kI0 ?n0_0 ?iC1 ?tI1 ?lI1 ?cI1 ?kI1 ?n1_0 ?iC2 ?tI2 ?lI2 ?cI2 ?kI2 ?n2_0 ?iC3 ?tI3 ?lI3 ?cI3 ?kI3 ?n3_0 ?iC4 ?tI4 ?lI4 ?cI4 ?kI4 ?n4_0 ?iC5 ?tI5 ?lI5 ?cI5 ?kI5 ?n5_0 ?iC6 ?tI6 ?lI6 ?cI6 ?kI6 ?n6_0 ?iC7 ?tI7 ?lI7 ?cI7 ?kI7 ?n7_0 ?iC8 ?tI8 ?lI8 ?cI8 ?kI8 ?n8_0 ?iC9 ?tI9 ?lI9 ?cI9 ?kI9 ?n9_0 ?iC10 ?tI10 ?lI10 ?cI10 ?kI10 ?n10_0 ?iC11 ?tI11 ?lI11 ?cI11 ?kI11 ?n11_0 ?iC12 ?tI12 ?lI12 ?cI12 ?kI12 ?n12_0 ?iC13 ?tI13 ?lI13 ?cI13 ?kI13 ?n13_0 ?n13_1 ?iC14 ?tI14 ?lI14 ?cI14 ?kI14 ?n14_0 ?n14_1 ?x15 ?kC15 ?x16 ?kC16 ?x17 ?kC17 ?x18 ?kC18 ?x19 ?kC19 ?x20 ?kC20 ?x21 ?kC21 ?x22 ?kC22 ?x23 ?kC23 ?kit ?s3 ?a0 ?l0 ?c0 ?k0 ?a1 ?l1 ?c1 ?k1 ?a2 ?l2 ?c2 ?k2 ?a3 ?l3 ?c3 ?k3 ?a4 ?l4 ?c4 ?k4 ?a5 ?l5 ?c5 ?k5 ?a6 ?l6 ?c6 ?k6 ?a7 ?l7 ?c7 ?k7 ?a8 ?l8 ?c8 ?k8 ?a9 ?l9 ?c9 ?k9 ?a10 ?l10 ?c10 ?k10 ?z0 ?z1 ?z2 ?z3 ?z4 ?z5 ?z6 ?z7 ?m0 ?m1 ?m2 ?m3 ?m4 ?m5 ?m6 ?m7 ?m8 ?m9 ?m10 ?m11 ?m12 ?m13 ?m14 ?m15 ?m16 ?m17 ?m18 ?m19 ?m20 ?m21 ?m22
    (case aC0 => k_is)
    (case aC1 => k_is)
    (case aC2 => k_is)
    (case aC3 => k_is)
    (case aC4 => k_is)
    (case aC5 => k_is)
    (case aC6 => k_is)
    (case aC7 => k_is)
    (case aC8 => k_is)
    (case aC9 => k_is)
    (case aC10 => k_is)
    (case aC11 => k_is)
    (case aC12 => k_is)
    (case aC13 => k_is)
    (case aC14 => k_is)
    (case aC15 => k_is)
    (case aC16 => k_is)
    (case aC17 => k_is)
    (case aC18 => k_is)
    (case aC19 => k_is)
    (case aC20 => k_is)
    (case aC21 => k_is)
    (case aC22 => k_is)
    (case aC23 => k_is)
    (case aS => k_is)
    (case eC0 => kernel_rfl)
    (case eC1 => kernel_rfl)
    (case eC2 => kernel_rfl)
    (case eC3 => kernel_rfl)
    (case eC4 => kernel_rfl)
    (case eC5 => kernel_rfl)
    (case eC6 => kernel_rfl)
    (case eC7 => kernel_rfl)
    (case eC8 => kernel_rfl)
    (case eC9 => kernel_rfl)
    (case eC10 => kernel_rfl)
    (case eC11 => kernel_rfl)
    (case eC12 => kernel_rfl)
    (case eC13 => kernel_rfl)
    (case eC14 => kernel_rfl)
    (case eC15 => kernel_rfl)
    (case eC16 => kernel_rfl)
    (case eC17 => kernel_rfl)
    (case eC18 => kernel_rfl)
    (case eC19 => kernel_rfl)
    (case eC20 => kernel_rfl)
    (case eC21 => kernel_rfl)
    (case eC22 => kernel_rfl)
    (case eC23 => kernel_rfl)
    (case eS => kernel_rfl)
    (case xS => kernel_rfl)
    (case kS => k_is)
    (case iC0 => k_is)
    (case tI0 => k_is)
    (case lI0 => k_is)
    (case cI0 => k_is)
    (case kI0 => k_is)
    (case n0_0 => k_is)
    (case iC1 => k_is)
    (case tI1 => k_is)
    (case lI1 => k_is)
    (case cI1 => k_is)
    (case kI1 => k_is)
    (case n1_0 => k_is)
    (case iC2 => k_is)
    (case tI2 => k_is)
    (case lI2 => k_is)
    (case cI2 => k_is)
    (case kI2 => k_is)
    (case n2_0 => k_is)
    (case iC3 => k_is)
    (case tI3 => k_is)
    (case lI3 => k_is)
    (case cI3 => k_is)
    (case kI3 => k_is)
    (case n3_0 => k_is)
    (case iC4 => k_is)
    (case tI4 => k_is)
    (case lI4 => k_is)
    (case cI4 => k_is)
    (case kI4 => k_is)
    (case n4_0 => k_is)
    (case iC5 => k_is)
    (case tI5 => k_is)
    (case lI5 => k_is)
    (case cI5 => k_is)
    (case kI5 => k_is)
    (case n5_0 => k_is)
    (case iC6 => k_is)
    (case tI6 => k_is)
    (case lI6 => k_is)
    (case cI6 => k_is)
    (case kI6 => k_is)
    (case n6_0 => k_is)
    (case iC7 => k_is)
    (case tI7 => k_is)
    (case lI7 => k_is)
    (case cI7 => k_is)
    (case kI7 => k_is)
    (case n7_0 => k_is)
    (case iC8 => k_is)
    (case tI8 => k_is)
    (case lI8 => k_is)
    (case cI8 => k_is)
    (case kI8 => k_is)
    (case n8_0 => k_is)
    (case iC9 => k_is)
    (case tI9 => k_is)
    (case lI9 => k_is)
    (case cI9 => k_is)
    (case kI9 => k_is)
    (case n9_0 => k_is)
    (case iC10 => k_is)
    (case tI10 => k_is)
    (case lI10 => k_is)
    (case cI10 => k_is)
    (case kI10 => k_is)
    (case n10_0 => k_is)
    (case iC11 => k_is)
    (case tI11 => k_is)
    (case lI11 => k_is)
    (case cI11 => k_is)
    (case kI11 => k_is)
    (case n11_0 => k_is)
    (case iC12 => k_is)
    (case tI12 => k_is)
    (case lI12 => k_is)
    (case cI12 => k_is)
    (case kI12 => k_is)
    (case n12_0 => k_is)
    (case iC13 => k_is)
    (case tI13 => k_is)
    (case lI13 => k_is)
    (case cI13 => k_is)
    (case kI13 => k_is)
    (case n13_0 => k_is)
    (case n13_1 => k_is)
    (case iC14 => k_is)
    (case tI14 => k_is)
    (case lI14 => k_is)
    (case cI14 => k_is)
    (case kI14 => k_is)
    (case n14_0 => k_is)
    (case n14_1 => k_is)
    (case x15 => kernel_rfl)
    (case kC15 => k_is)
    (case x16 => kernel_rfl)
    (case kC16 => k_is)
    (case x17 => kernel_rfl)
    (case kC17 => k_is)
    (case x18 => kernel_rfl)
    (case kC18 => k_is)
    (case x19 => kernel_rfl)
    (case kC19 => k_is)
    (case x20 => kernel_rfl)
    (case kC20 => k_is)
    (case x21 => kernel_rfl)
    (case kC21 => k_is)
    (case x22 => kernel_rfl)
    (case kC22 => k_is)
    (case x23 => kernel_rfl)
    (case kC23 => k_is)
    (case kit => kernel_rfl)
    (case s3 => kernel_rfl)
    (case a0 => k_is)
    (case l0 => k_is)
    (case c0 => k_is)
    (case k0 => k_is)
    (case a1 => k_is)
    (case l1 => k_is)
    (case c1 => k_is)
    (case k1 => k_is)
    (case a2 => k_is)
    (case l2 => k_is)
    (case c2 => k_is)
    (case k2 => k_is)
    (case a3 => k_is)
    (case l3 => k_is)
    (case c3 => k_is)
    (case k3 => k_is)
    (case a4 => k_is)
    (case l4 => k_is)
    (case c4 => k_is)
    (case k4 => k_is)
    (case a5 => k_is)
    (case l5 => k_is)
    (case c5 => k_is)
    (case k5 => k_is)
    (case a6 => k_is)
    (case l6 => k_is)
    (case c6 => k_is)
    (case k6 => k_is)
    (case a7 => k_is)
    (case l7 => k_is)
    (case c7 => k_is)
    (case k7 => k_is)
    (case a8 => k_is)
    (case l8 => k_is)
    (case c8 => k_is)
    (case k8 => k_is)
    (case a9 => k_is)
    (case l9 => k_is)
    (case c9 => k_is)
    (case k9 => k_is)
    (case a10 => k_is)
    (case l10 => k_is)
    (case c10 => k_is)
    (case k10 => k_is)
    (case z0 => k_is)
    (case z1 => k_is)
    (case z2 => k_is)
    (case z3 => k_is)
    (case z4 => k_is)
    (case z5 => k_is)
    (case z6 => k_is)
    (case z7 => k_is)
    (case m0 => k_is)
    (case m1 => k_is)
    (case m2 => k_is)
    (case m3 => k_is)
    (case m4 => k_is)
    (case m5 => k_is)
    (case m6 => k_is)
    (case m7 => k_is)
    (case m8 => k_is)
    (case m9 => k_is)
    (case m10 => k_is)
    (case m11 => k_is)
    (case m12 => k_is)
    (case m13 => k_is)
    (case m14 => k_is)
    (case m15 => k_is)
    (case m16 => k_is)
    (case m17 => k_is)
    (case m18 => k_is)
    (case m19 => k_is)
    (case m20 => k_is)
    (case m21 => k_is)
    (case m22 => k_is)
