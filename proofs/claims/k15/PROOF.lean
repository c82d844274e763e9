import PyProof.Rows.All
import Wide.All
import OpenK.AllK
import Wide.FinOn
import PyProof.ReprRoads
import PyProof.ReprLen
import HandS.ForMost
import HandS.Conv
import HandS.IsInst
import HandS.TupAny
import HandS.TupMul
import HandS.Wide
import HandS.Style
import HandS.Evl
import HandS.Strs
import HandS.Codes
import HandS.StrMore
import HandS.Replace
import PyProof.TupleOfStr
import HandS.NoneIn
import KE.GoesMore
import HandS.Walk
import HandS.Small
import HandS.Deep
import HandS.HeadHook3
import PyProof.ListStr
import PySem.Challenge.RW_sortedshelves_k15_words_read_backwards_a
import PyProof.ListTruth
import HandS.ReSub
import HandS.WordsDict
import HandS.Zip
import HandS.TupLen
import HandS.NestedK
import HandS.WideBits
import HandS.WordsExc
import KE.KDictDisplayH
import HandS.ExcIs
import HandS.ExcOwn
import HandS.Exc
set_option Elab.async false
set_option linter.all false
set_option maxRecDepth 100000
set_option maxHeartbeats 4000000
namespace Ver
open PySem PySem.Spec PyProof.Rows L2
set_option pp.maxSteps 200
set_option pp.deepTerms false

/-! ### data as it lies in the heap, apart from the addresses in B -/
mutual
inductive Dt (B : Addr → Prop) (K : PySem.W.Frag) (H : Hp) : V → PyData → Prop
  | non : Dt B K H .non .none
  | bl (b : Bool) : Dt B K H (.bl b) (.bool b)
  | int (i : Int) : Dt B K H (.int i) (.int i)
  | str (x : Str) : Dt B K H (.str x) (.str x)
  | lst {a : Addr} {xs : List V} {ds : List PyData} (nb : ¬ B a) (ne : a ≠ sysModules) (hs : Rd H a (.lst xs)) (ha : DtAll B K H xs ds) : Dt B K H (.ref a) (.list ds)
  | tup {a : Addr} {xs : List V} {ds : List PyData} (nb : ¬ B a) (hs : Rd H a (.tup xs)) (ha : DtAll B K H xs ds) : Dt B K H (.ref a) (.tuple ds)
  | emp {a : Addr} (nb : ¬ B a) (h : H a = some (.dK [])) : Dt B K H (.ref a) (.dict [])
inductive DtAll (B : Addr → Prop) (K : PySem.W.Frag) (H : Hp) : List V → List PyData → Prop
  | nil : DtAll B K H [] []
  | cons {v : V} {vs : List V} {d : PyData} {ds : List PyData} (hd : Dt B K H v d) (tl : DtAll B K H vs ds) : DtAll B K H (v :: vs) (d :: ds)
end

/-- all that is tracked outside of B stays -/
def Keep (B : Addr → Prop) (H H' : Hp) : Prop := ∀ b o, ¬ B b → H b = some o → H' b = some o
theorem Keep.rfl' {B : Addr → Prop} {H : Hp} : Keep B H H := fun _ _ _ e => e
theorem Keep.trans {B : Addr → Prop} {H H1 H2 : Hp} (x : Keep B H H1) (y : Keep B H1 H2) : Keep B H H2 := fun b o n e => y b o n (x b o n e)
theorem Keep.same {B : Addr → Prop} {H H' : Hp} (x : Same H H') : Keep B H H' := fun b o _ e => x b o e
theorem keep_new {B : Addr → Prop} {H : Hp} {p : Addr} {o : HO} (n : H p = none) : Keep B H (upd H p o) := fun b u _ e => by
  rw [upd_ne (ne_of_none e n)]
  exact e
theorem same_new {H : Hp} {p : Addr} {o : HO} (n : H p = none) : Same H (upd H p o) := fun b u e => by
  rw [upd_ne (ne_of_none e n)]
  exact e
theorem Keep.rd {B : Addr → Prop} {H H' : Hp} {a : Addr} {o : HO} (k : Keep B H H') (nb : ¬ B a) (h : Rd H a o) : Rd H' a o := by
  rcases h with h | ⟨u, h⟩
  · exact .inl (k _ _ nb h)
  · exact .inr ⟨u, k _ _ nb h⟩
theorem Keep.seqL {B : Addr → Prop} {K : PySem.W.Frag} {H H' : Hp} {a : Addr} {xs : List V} (k : Keep B H H') (nb : ¬ B a) (h : SqL K H a xs) : SqL K H' a xs := by
  rcases h with (h | ⟨o, h⟩) | h
  · exact .inl (.inl (k _ _ nb h))
  · exact .inl (.inr ⟨o, k _ _ nb h⟩)
  · exact .inr h
theorem Keep.seqT {B : Addr → Prop} {K : PySem.W.Frag} {H H' : Hp} {a : Addr} {xs : List V} (k : Keep B H H') (nb : ¬ B a) (h : SqT K H a xs) : SqT K H' a xs := by
  rcases h with (h | ⟨o, h⟩) | h
  · exact .inl (.inl (k _ _ nb h))
  · exact .inl (.inr ⟨o, k _ _ nb h⟩)
  · exact .inr h
mutual
theorem Dt.keep {B : Addr → Prop} {K : PySem.W.Frag} {H H' : Hp} (k : Keep B H H') : ∀ (d : PyData) (v : V), Dt B K H v d → Dt B K H' v d
  | .none, _, h => by cases h; exact .non
  | .bool _, _, h => by cases h; exact .bl _
  | .int _, _, h => by cases h; exact .int _
  | .str _, _, h => by cases h; exact .str _
  | .list ds, _, h => by
    cases h with
    | lst nb ne hs ha => exact .lst nb ne (k.rd nb hs) (DtAll.keep k ds _ ha)
  | .tuple ds, _, h => by
    cases h with
    | tup nb hs ha => exact .tup nb (k.rd nb hs) (DtAll.keep k ds _ ha)
  | .dict _, _, h => by
    cases h with
    | emp nb e => exact .emp nb (k _ _ nb e)
theorem DtAll.keep {B : Addr → Prop} {K : PySem.W.Frag} {H H' : Hp} (k : Keep B H H') : ∀ (ds : List PyData) (vs : List V), DtAll B K H vs ds → DtAll B K H' vs ds
  | [], _, h => by cases h; exact .nil
  | d :: ds, _, h => by
    cases h with
    | cons h1 h2 => exact .cons (Dt.keep k d _ h1) (DtAll.keep k ds _ h2)
end
theorem DtAll.len {B : Addr → Prop} {K : PySem.W.Frag} {H : Hp} : ∀ {vs : List V} {ds : List PyData}, DtAll B K H vs ds → vs.length = ds.length
  | _, _, .nil => rfl
  | _, _, .cons _ t => congrArg (· + 1) (DtAll.len t)
theorem DtAll.append {B : Addr → Prop} {K : PySem.W.Frag} {H : Hp} : ∀ {vs ws : List V} {ds es : List PyData}, DtAll B K H vs ds → DtAll B K H ws es → DtAll B K H (vs ++ ws) (ds ++ es)
  | _, _, _, _, .nil, q => q
  | _, _, _, _, .cons r t, q => .cons r (DtAll.append t q)
theorem DtAll.take {B : Addr → Prop} {K : PySem.W.Frag} {H : Hp} : ∀ {vs : List V} {ds : List PyData} (n : Nat), DtAll B K H vs ds → DtAll B K H (vs.take n) (ds.take n)
  | _, _, 0, _ => .nil
  | _, _, _ + 1, .nil => .nil
  | _, _, n + 1, .cons r t => .cons r (DtAll.take n t)
theorem DtAll.drop {B : Addr → Prop} {K : PySem.W.Frag} {H : Hp} : ∀ {vs : List V} {ds : List PyData} (n : Nat), DtAll B K H vs ds → DtAll B K H (vs.drop n) (ds.drop n)
  | _, _, 0, h => h
  | _, _, _ + 1, .nil => .nil
  | _, _, n + 1, .cons _ t => DtAll.drop n t
theorem DtAll.get {B : Addr → Prop} {K : PySem.W.Frag} {H : Hp} : ∀ {vs : List V} {ds : List PyData} {i : Nat} {d : PyData}, DtAll B K H vs ds → ds[i]? = some d → ∃ v, vs[i]? = some v ∧ Dt B K H v d
  | _, _, _, _, .nil, e => by simp at e
  | _, _, 0, _, .cons r _, e => by
    simp at e
    subst e
    exact ⟨_, rfl, r⟩
  | _, _, i + 1, _, .cons _ t, e => by
    obtain ⟨v, h1, h2⟩ := DtAll.get (i := i) t (by simpa using e)
    exact ⟨v, by simpa using h1, h2⟩
theorem DtAll.getV {B : Addr → Prop} {K : PySem.W.Frag} {H : Hp} : ∀ {vs : List V} {ds : List PyData} {i : Nat} {v : V}, DtAll B K H vs ds → vs[i]? = some v → ∃ d, ds[i]? = some d ∧ Dt B K H v d
  | _, _, _, _, .nil, e => by simp at e
  | _, _, 0, _, .cons r _, e => by
    simp at e
    subst e
    exact ⟨_, rfl, r⟩
  | _, _, i + 1, _, .cons _ t, e => by
    obtain ⟨v, h1, h2⟩ := DtAll.getV (i := i) t (by simpa using e)
    exact ⟨v, by simpa using h1, h2⟩
theorem DtAll.rev {B : Addr → Prop} {K : PySem.W.Frag} {H : Hp} : ∀ {vs : List V} {ds : List PyData}, DtAll B K H vs ds → DtAll B K H vs.reverse ds.reverse
  | _, _, .nil => .nil
  | _, _, .cons r t => by
    rw [List.reverse_cons, List.reverse_cons]
    exact (DtAll.rev t).append (.cons r .nil)
theorem DtAll.rep {B : Addr → Prop} {K : PySem.W.Frag} {H : Hp} {v : V} {d : PyData} (h : Dt B K H v d) : ∀ n : Nat, DtAll B K H (List.replicate n v) (List.replicate n d)
  | 0 => .nil
  | n + 1 => .cons h (DtAll.rep h n)

section
variable {X : Cx} {pins : List (Addr × Obj)} {σ : L2.St} {H : Hp} {s : Shared}
theorem no_entries {knd : KeyKind X.prog X.w Key} {es : List DictEntry} (h : PySem.Pairs knd es ([] : List (Key × Value))) : es = [] := by
  cases h
  rfl
mutual
theorem Dt.reads {B : Addr → Prop} (I : Inv X pins σ H s) : ∀ (d : PyData) (v : V) (u : Value), Dt B X.K H v d → RelV v u → ∃ as, Reads s.heap u d as ∧ sysModules ∉ as
  | .none, _, _, h, r => by
    cases h
    cases r
    exact ⟨[], .none, List.not_mem_nil⟩
  | .bool b, _, _, h, r => by
    cases h
    cases r
    exact ⟨[], .bool b, List.not_mem_nil⟩
  | .int i, _, _, h, r => by
    cases h
    obtain ⟨t, rfl⟩ := r
    exact ⟨[], .int i t, List.not_mem_nil⟩
  | .str x, _, _, h, r => by
    cases h
    obtain ⟨t, rfl⟩ := r
    exact ⟨[], .str x t, List.not_mem_nil⟩
  | .list ds, _, _, h, r => by
    cases h with
    | lst nb ne hs ha =>
      cases r
      obtain ⟨its, rv, ⟨ob, n, ho, hc, _, hd⟩, _⟩ := I.list (.inl hs)
      obtain ⟨as, hr, hn⟩ := DtAll.reads I ds _ its ha rv
      refine ⟨_, .list ho hc hd hr, fun z => ?_⟩
      rcases List.mem_cons.mp z with z | z
      · exact ne z.symm
      · exact hn z
  | .tuple ds, _, _, h, r => by
    cases h with
    | tup nb hs ha =>
      cases r
      obtain ⟨its, rv, ⟨ob, ho, hc, n, hd⟩, _⟩ := I.tuple (.inl hs)
      obtain ⟨as, hr, hn⟩ := DtAll.reads I ds _ its ha rv
      exact ⟨_, .tuple ho hc hd hr, hn⟩
  | .dict _, _, _, h, r => by
    cases h with
    | emp nb e =>
      cases r
      obtain ⟨_, hm, vs, rel, ob, es, ep, ho, hx, hd, _, hp, _⟩ := dk_of I.hok e
      cases rel
      have he := no_entries hp
      refine ⟨_, .dict (kvs := []) ho hx.1 hd (by rw [he]; exact .nil) (by rw [he]; exact .nil), fun z => ?_⟩
      rcases List.mem_cons.mp z with z | z
      · rw [← z] at hm
        simp at hm
      · simp at z
theorem DtAll.reads {B : Addr → Prop} (I : Inv X pins σ H s) : ∀ (ds : List PyData) (vs : List V) (us : List Value), DtAll B X.K H vs ds → Vals vs us → ∃ as, ReadsAll s.heap us ds as ∧ sysModules ∉ as
  | [], _, _, h, r => by
    cases h
    cases r
    exact ⟨[], .nil, List.not_mem_nil⟩
  | d :: ds, _, _, h, r => by
    cases h with
    | cons h1 h2 =>
      cases r with
      | cons r1 r2 =>
        obtain ⟨as, q1, n1⟩ := Dt.reads I d _ _ h1 r1
        obtain ⟨bs, q2, n2⟩ := DtAll.reads I ds _ _ h2 r2
        refine ⟨_, .cons q1 q2, fun z => ?_⟩
        rcases List.mem_append.mp z with z | z
        · exact n1 z
        · exact n2 z
end
end

/-! ### repr -/
section
variable {X : Cx}
def rRepr (K : PySem.W.Frag) : List V → Hp → VK → Prop := fun xs H Q => ∃ (x : V) (d : PyData) (B : Addr → Prop), xs = [x] ∧ Dt B K H x d ∧ d.showable = true ∧ d.depth ≤ 60 ∧ d.shown.length ≤ sizeLine ∧ Q (.str d.shown) H
theorem call_reprD (hG : X.A.guards = some []) (hu : X.A.units + 64 < cLine) : CallR X (.builtin "repr") (rRepr X.K) := by
  intro pins s σ H xs us Q I r h
  obtain ⟨x, d, B, rfl, hd, hs, hdp, hz, q⟩ := h
  obtain ⟨u, rfl, rx⟩ := vals1 r
  obtain ⟨as, rd, hn⟩ := Dt.reads I d x u hd rx
  cases hd with
  | non =>
    cases rx
    exact PySem.P.repr_of_none ⟨.str _, H, I.tok _, ⟨_, rfl⟩, q⟩
  | bl b =>
    cases rx
    exact PySem.P.repr_of_bool ⟨.str _, H, I.tok _, ⟨_, rfl⟩, q⟩
  | int i =>
    obtain ⟨t, rfl⟩ := rx
    exact PySem.P.repr_of_int (by simpa [PyData.showable] using hs) ⟨.str _, H, I.tok _, ⟨_, rfl⟩, q⟩
  | str y =>
    obtain ⟨t, rfl⟩ := rx
    exact PySem.P.repr_of_str ⟨.str _, H, I.tok _, ⟨_, rfl⟩, q⟩ (by simpa only [PyData.shown] using hz)
  | lst nb ne hs' ha =>
    cases rx
    exact repr_of_reads' rd hs (fun _ => hn) hG (by omega) (fun _ _ e => e) (fun h' u tk hk => ⟨.str _, H, I.kept hk, ⟨_, rfl⟩, q⟩) hz
  | tup nb hs' ha =>
    cases rx
    exact repr_of_reads' rd hs (fun _ => hn) hG (by omega) (fun _ _ e => e) (fun h' u tk hk => ⟨.str _, H, I.kept hk, ⟨_, rfl⟩, q⟩) hz
  | emp nb e =>
    cases rx
    exact repr_of_reads' rd hs (fun _ => hn) hG (by omega) (fun _ _ e => e) (fun h' u tk hk => ⟨.str _, H, I.kept hk, ⟨_, rfl⟩, q⟩) hz
end

/-! ### a def called where nothing is being shown (no repr under way) -/
section
variable {P : Program} {w : World} {K : PySem.W.Frag} {mg : Str → Option Value} {base : Heap}
def GRun (P : Program) (w : World) (K : PySem.W.Frag) (mg : Str → Option Value) (base : Heap) (k : Nat) (f : Addr) (fd : FuncData) (ps : List Str) (sp : Sp) : Prop :=
  ∀ (A : Around) (outer : List Env) (s : Shared) (H : Hp) (us : List Value) (vs : List V) (Q : VK),
    A.guards = some [] → Room k A → Env0 P w K mg base A outer s H → BindsTo s fd ⟨us, []⟩ (ps.zip us) → Vals vs us → vs.length = ps.length → sp vs H Q E0 →
    codeAny (model P w) A (.call (.ref f) ⟨us, []⟩) (CR CX0 outer P w H s Q E0) s
theorem grun {x qual : Str} {st : Stmt} {f : Addr} {fd : FuncData} {N ps : List Str} {k : Nat} {sp : Sp} (F : Fun K x qual st f fd) (S : FnScope N ps (defScope st))
    (body : ∀ (cdv : Value) (A : Around) (outer : List Env) (s : Shared) (H : Hp) (vs : List V) (Q : VK), A.guards = some [] → Room k (A.deeper (envOfC qual (defScope st) s.heap.objs.size f cdv)) → sp vs H Q E0 →
      ∃ t, PSs (cxOf CX0 P w K mg base N qual (defScope st) f cdv A outer s H E0).nox (defBody st) t ∧ t { nx := fun _ H' => Q .non H', rt := Q } (start N vs) H) :
    GRun P w K mg base (k + 1) f fd ps sp := by
  obtain ⟨oc, od, kV, doc, pm, an, cdv, ct, osl, rfl, lk, hcd⟩ := F.ex
  intro A outer s H us vs Q hG hr e0 hb r hl hsp
  have inK : K.In s.heap := e0.mod.kin.keeps (fun b o q => (e0.bs b o q).1)
  have noL : s.heap.NoLimit := e0.mod.nolimit.keeps (fun b o q => (e0.bs b o q).1)
  have kinds : ∀ y ∈ ps.zip us, (defScope st).names.lookup y.1 = some .local ∨ ((defScope st).names.lookup y.1 = some .cell ∧ ((cellsFrom (s.heap.objs.size + 1) (defScope st).names []).lookup y.1).isSome = true) := by
    intro y hy
    obtain ⟨n, v⟩ := y
    cases S.par n (List.of_mem_zip hy).1 with
    | inl q => exact Or.inl q
    | inr q => exact Or.inr ⟨q, PySem.W.cellsFrom_some _ _ _ (Or.inl q)⟩
  refine codeAny_call_function hr.depth (inK _ _ lk) rfl S.co S.gen rfl (PySem.W.codeRec_of inK hcd) (hb _ _ _ _ ?_)
  refine wpAny_newFunctionEnv_cells S.kind kinds (fun env he s1 x => ?_)
  cases he
  obtain ⟨t, ht, hq⟩ := body cdv A outer s H vs Q hG (hr.deeper _) hsp
  have J := inv_start (CX := CX0) (mg := mg) (E := E0) S hr.hd e0 hl r x
  refine ⟨noL.keeps x.toInCall.keep, codeAny_func (wpAny_mono (ht.nox.run [] s1 (start N vs) H _ J hq) ?_ (fun e s' z => z))⟩
  intro fl s' z
  cases fl with
  | next =>
    obtain ⟨_, H', J', q⟩ := z
    exact ⟨.non, H', J'.os, J'.bare, J'.base, J'.hok, rfl, q⟩
  | ret u =>
    obtain ⟨v, _, H', J', rv, q⟩ := z
    exact ⟨v, H', J'.os, J'.bare, J'.base, J'.hok, rv, q⟩
  | brk => exact (z.choose_spec.choose_spec.2).elim
  | cont => exact (z.choose_spec.choose_spec.2).elim

/-- called from outside with the object at a, the def at fa answers True and leaves what stood -/
abbrev TrueAt (P : Program) (w : World) (fa a : Addr) (t : Shared) : Prop :=
  codeAny (model P w) callerA (.call (.ref fa) ⟨[.ref a], []⟩)
    (fun r u => r = .ok (.ret (.bool true)) ∧
      OldK t.heap u.heap ∧ u.os = t.os ∧ AllBare u.gens) t
/-- nothing but one list of ints, known, is tracked -/
theorem gcall {k : Nat} {fa a : Addr} {fd : FuncData} {x : Str} {sp : Sp} {s₁ : Shared} {mb : Str → Option Value} {H : Hp}
    (inH : K.In s₁.heap) (atG : s₁.heap.Ns mainGlobals mg) (hb : s₁.heap.Ns builtinsNs mb) (bB : ∀ x : Str, x ≠ "__name__" → mb x = bootBuiltins x) (lim : s₁.heap.NoLimit) (hg : s₁.gens = #[])
    (hr : Room k callerA) (R : ∀ base : Heap, K.In base → base.Ns mainGlobals mg → GRun P w K mg base k fa fd [x] sp) (bind : ∀ (s : Shared) (u : Value), BindsTo s fd ⟨[u], []⟩ [(x, u)])
    (hok : HOk P w H s₁.heap) (only : ∀ b o, H b = some o → b = a ∧ (∃ ob xs, o = .frz ob (.lst xs) ∧ ∀ es ep, ob.data ≠ .dict es ep) ∧ K.lookup a = none)
    (hsp : sp [.ref a] H (fun v _ => v = .bl true) E0) :
    TrueAt P w fa a s₁ := by
  have plain : ∀ {b : Addr} {o : Obj} {es : Array DictEntry} {ep : Nat}, s₁.heap.get? b = some o → o.data = .dict es ep → H b = none := by
    intro b o es ep q d
    cases z : H b with
    | none => rfl
    | some u =>
      obtain ⟨_, ⟨ob, xs, rfl, nd⟩, _⟩ := only b u z
      obtain ⟨q2, _⟩ := hok b _ z
      rw [q] at q2
      cases q2
      exact absurd d (nd es ep)
  have nsB : ∀ {b : Addr} {m : Str → Option Value}, s₁.heap.Ns b m → (hidT s₁.heap H).Ns b m := by
    rintro b m ⟨o, es, ep, q, d, r⟩
    exact ⟨o, es, ep, hidT_get q (plain q d), d, r⟩
  have kB : K.In (hidT s₁.heap H) := by
    intro b o q
    refine hidT_get (inH b o q) ?_
    cases z : H b with
    | none => rfl
    | some u =>
      obtain ⟨e, _, n⟩ := only b u z
      rw [e, n] at q
      cases q
  have md : L2.Mod K mg (hidT s₁.heap H) := by
    obtain ⟨mc, l1, l2⟩ := lim
    exact ⟨kB, nsB atG, ⟨mb, nsB hb, bB⟩, ⟨mc, nsB l1, l2⟩⟩
  have env : Env0 P w K mg (hidT s₁.heap H) callerA [] s₁ H :=
    { frames := rfl, mod := md, bs := fun b o q => of_hidT q, bsz := Nat.le_of_eq (hidT_size _ _), funs := trivial, frf := fun b z => absurd z List.not_mem_nil, hok := hok, bare := .of_eq hg }
  have run := R _ kB (nsB atG) callerA [] s₁ H [.ref a] [.ref a] _ rfl hr env (bind s₁ (.ref a)) (.cons rfl .nil) rfl hsp
  refine codeAny_mono run (fun r s' z => ?_)
  match r, z with
  | .error _, z => exact z.elim
  | .ok .next, z => exact z.elim
  | .ok .brk, z => exact z.elim
  | .ok .cont, z => exact z.elim
  | .ok (.ret u), ⟨v, H', os, bare, un, hok', rv, q⟩ =>
    have q : v = .bl true := q
    cases q
    have rv : u = Value.bool true := rv
    cases rv
    refine ⟨rfl, .of_keep (fun b o e => ?_), os, bare⟩
    cases z : H b with
    | none => exact un.keep b o e z List.not_mem_nil List.not_mem_nil
    | some u =>
      obtain ⟨_, ⟨ob, xs, rfl, _⟩, _⟩ := only b u z
      have g1 := (hok b _ z).1
      have g2 := (hok' b _ (un.frzs b ob _ z)).1
      rw [e] at g1
      cases g1
      exact g2
/-- the law's call, the script tracked or written -/
theorem glaw {k : Nat} {fa a : Addr} {fd : FuncData} {x : Str} {sp : Sp} {s₁ : Shared} {mb : Str → Option Value} {vs : List Value} {ns : List Int}
    (inH : K.In s₁.heap) (atG : s₁.heap.Ns mainGlobals mg) (hb : s₁.heap.Ns builtinsNs mb) (bB : ∀ x : Str, x ≠ "__name__" → mb x = bootBuiltins x) (lim : s₁.heap.NoLimit) (hg : s₁.gens = #[])
    (ha : s₁.heap.get? a = some { cls := .type "list", data := .seq vs.toArray }) (hi : IntsAre vs ns) (hl : ns.length ≤ sizeLine)
    (hr : Room k callerA) (R : ∀ base : Heap, K.In base → base.Ns mainGlobals mg → GRun P w K mg base k fa fd [x] sp) (bind : ∀ (s : Shared) (u : Value), BindsTo s fd ⟨[u], []⟩ [(x, u)])
    (hsp : ∀ H : Hp, SqL K H a (ns.map V.int) → sp [.ref a] H (fun v _ => v = .bl true) E0) :
    TrueAt P w fa a s₁ := by
  have rv := vals_ints hi
  cases q : K.lookup a with
  | some o =>
    have e := (inH a o q).symm.trans ha
    cases e
    refine gcall (H := fun _ => none) inH atG hb bB lim hg hr R bind (fun b u z => by cases z) (fun b u z => by cases z) (hsp _ (.inr ⟨_, vs.toArray, _, q, rfl, rfl, rfl, ?_, by simpa using rv⟩))
    rw [List.size_toArray, hi.length]
    exact hl
  | none =>
    have tr : ∀ b u, upd (fun _ => none) a (.frz { cls := .type "list", data := .seq vs.toArray } (.lst (ns.map V.int))) b = some u → b = a ∧ u = .frz { cls := .type "list", data := .seq vs.toArray } (.lst (ns.map V.int)) := by
      intro b u z
      by_cases h : b = a
      · rw [h, upd_same] at z
        exact ⟨h, (Option.some.inj z).symm⟩
      · rw [upd_ne h] at z
        cases z
    refine gcall (H := upd (fun _ => none) a (.frz { cls := .type "list", data := .seq vs.toArray } (.lst (ns.map V.int)))) inH atG hb bB lim hg hr R bind (fun b u z => ?_) (fun b u z => ?_) (hsp _ (.inl (.inr ⟨_, upd_same⟩)))
    · obtain ⟨rfl, rfl⟩ := tr b u z
      exact ⟨ha, by rw [List.length_map]; exact hl, vs, _, rv, ha⟩
    · obtain ⟨rfl, rfl⟩ := tr b u z
      exact ⟨rfl, ⟨_, _, rfl, fun es ep d => by cases d⟩, q⟩
end
/-- the end of the row's proof -/
theorem gwalk {l : PySem.W.OpenLaw} {n k : Nat} {q : Program} {loose : List Str} {XP : (Str → Option Value) → Heap → Prop} {YP : World → Heap → Prop} {d : DefRec} {K : Params → PySem.W.Frag} {sp : World → Sp} {x : Str}
    (hn : l.most = some n) (hn2 : n ≤ sizeLine) (hdf : d.params.defaults = []) (hr : Room k callerA) (hY : ∀ (w : World) (h : Heap), YP w h → (K w.params).In h)
    (F : ∀ (w : World) (mg : Str → Option Value) (fa : Addr) (h : Heap), (K w.params).In h → h.Ns mainGlobals mg → mg d.name = some (.ref fa) →
      ∃ fd : FuncData, (∀ (s : Shared) (u : Value), BindsTo s fd ⟨[u], []⟩ [(x, u)]) ∧ ∀ base : Heap, (K w.params).In base → base.Ns mainGlobals mg → GRun l.prog w (K w.params) mg base k fa fd [x] (sp w))
    (hsp : ∀ (w : World) (H : Hp) (a : Addr) (ns : List Int), ns.length ≤ n → SqL (K w.params) H a (ns.map V.int) → sp w [.ref a] H (fun v _ => v = .bl true) E0) :
    PySem.W.WalkO q loose XP YP l.row.toRowW d [] (fun f vs => PySem.call f vs) := by
  refine Att.attach_call hn hdf (fun w s₀ s₁ mg mb fa o pm cd doc a vs ns G Y _ _ _ hmg hobj hints hlen hg => ?_)
  have inK := hY w _ Y
  obtain ⟨fd, bind, R⟩ := F w mg fa _ inK G.T.g hmg
  exact glaw inK G.T.g G.T.b G.T.builtins G.T.nolimit hg hobj hints (Nat.le_trans hlen hn2) hr R bind (fun H hS => hsp w H a ns hlen hS)
/-! ### the text by places -/
def top (i : Nat) : Stmt := PySem.Challenge.pw_sortedshelves_k15_words_read_backwards_a.main.body.getD i (.Pass ⟨0, 0, 0, 0⟩)
abbrev sReached : Stmt := top 6
abbrev sSources : Stmt := top 7
abbrev sFirst : Stmt := top 8
abbrev sSpelled : Stmt := top 9
abbrev sBits : Stmt := top 10
abbrev sJoined : Stmt := top 11
abbrev sIsOf : Stmt := top 13
abbrev sCompl : Stmt := top 14
abbrev sBack : Stmt := top 15
abbrev sApartP : Stmt := top 16
abbrev sDeck : Stmt := top 18
abbrev sDraw : Stmt := top 19
abbrev sOne : Stmt := top 20
abbrev sMach : Stmt := top 21
abbrev sNext : Stmt := top 22
abbrev sEnd : Stmt := top 23
abbrev sMet : Stmt := top 24
abbrev sOpen : Stmt := top 25
abbrev sLeast : Stmt := top 26
abbrev sApart : Stmt := top 27
abbrev sIsOfL : Stmt := top 28
abbrev sWords : Stmt := top 29
abbrev sTurned : Stmt := top 30
abbrev sParting : Stmt := top 31
abbrev sFar : Stmt := top 32
abbrev sLong : Stmt := top 33
abbrev sLongR : Stmt := top 34
abbrev sBehind : Stmt := top 35
abbrev sLaw : Stmt := top 36
theorem scDeck : FnScope ["_law_script", "_law_cell"] ["_law_script"] (defScope sDeck) := ⟨rfl, rfl, rfl, by decide +kernel, rfl, by decide +kernel, by decide +kernel⟩
theorem scDraw : FnScope ["_law_deck_here", "_law_many", "_law_cell", "_law_at", "_law_mixed"] ["_law_deck_here", "_law_many"] (defScope sDraw) := ⟨rfl, rfl, rfl, by decide +kernel, rfl, by decide +kernel, by decide +kernel⟩
theorem scOne : FnScope ["_law_deck_here", "_law_items"] ["_law_deck_here", "_law_items"] (defScope sOne) := ⟨rfl, rfl, rfl, by decide +kernel, rfl, by decide +kernel, by decide +kernel⟩
def DeckAt (a c : Addr) (cells : List Int) (n : Int) (H : Hp) : Prop :=
  a ≠ c ∧ H a = some (.lst [.ref c, .int n]) ∧ H c = some (.lst (cells.map V.int)) ∧ cells.length ≤ 63 ∧ (∀ z ∈ cells, 0 ≤ z)
theorem cut_ints (ns : List Int) (lo hi : Option Int) : ∃ ms : List Int, cutV (ns.map V.int) lo hi = ms.map V.int ∧ ms.length ≤ ns.length := by
  unfold cutV
  refine ⟨(ns.drop (HT.sIx (ns.map V.int).length 0 lo)).take (HT.sIx (ns.map V.int).length (ns.map V.int).length hi - HT.sIx (ns.map V.int).length 0 lo), by rw [List.map_take, List.map_drop], ?_⟩
  rw [List.length_take, List.length_drop]
  omega
theorem int_at {ns : List Int} {i : Nat} {x : V} (h : (ns.map V.int)[i]? = some x) : ∃ u, x = V.int u := by
  rw [List.getElem?_map] at h
  obtain ⟨u, _, e⟩ := Option.map_eq_some_iff.mp h
  exact ⟨u, e.symm⟩
section
variable {P : Program} {w : World} {K : PySem.W.Frag} {mg : Str → Option Value} {base : Heap}
def spDeck (K : PySem.W.Frag) : Sp := fun vs H Q _ => ∃ (l : Addr) (ns : List Int), vs = [.ref l] ∧ SqL K H l (ns.map V.int) ∧ ns.length ≤ 63 ∧
  ∀ (H' : Hp) (a c : Addr) (cells : List Int), Same H H' → H a = none → H c = none → DeckAt a c cells 0 H' → Q (.ref a) H'
theorem ok_deck {f : Addr} {fd : FuncData} (F : Fun K "_law_deck" "_law_deck" sDeck f fd) (mAbs : mg "abs" = none) : FnOk P w K mg base CX0 1 f fd ["_law_script"] (spDeck K) := by
  refine F.ok scDeck (fun vs H Q E h => ?_) (fun cdv A outer s H vs Q E hr h => ?_)
  · obtain ⟨l, ns, rfl, _⟩ := h
    rfl
  · obtain ⟨l, ns, rfl, hS, hlen, k⟩ := h
    refine ⟨_, pss_one (ps_ret (pe_lst (pa_cons (pe_lc (own := [("_law_cell", 1)]) (g := gName 1) (tt := tYes) rfl scDeck.nd (pi_list (pe_slice sl_list (pv 0) po_none (po_some pe_int))) (blkOk_by (N := ["_law_script", "_law_cell"]) (sc := defScope sDeck) (by decide +kernel)) (fun _ _ _ _ _ => pg_name (i := 1) scDeck.nd rfl (Or.inl rfl)) (fun _ _ _ _ _ => pts_nil)
      (fun _ _ _ _ _ => pe_callB call_abs (by rfl) mAbs (by decide +kernel) (pa_cons (pv 1) pa_nil))) (pa_cons pe_int pa_nil)))), ?_⟩
    refine ⟨_, rfl, 63, rfl, l, _, rfl, hS, fun p hp => ?_⟩
    obtain ⟨ms, e, hm⟩ := cut_ints ns none (some 63)
    rw [e]
    refine ⟨p, rfl, ⟨_, SqL.of upd_same⟩, fun D hD => ?_⟩
    have np : p ≠ D := ne_of_none upd_same hD
    have hD0 : H D = none := by
      rw [upd_ne np.symm] at hD
      exact hD
    refine lc_list (K := K) (a := p) (xs := ms.map V.int) (fun i H' => Same H H' ∧ H' p = some (.lst (ms.map V.int)) ∧ ∃ cs : List Int, H' D = some (.lst (cs.map V.int)) ∧ cs.length = i ∧ ∀ z ∈ cs, 0 ≤ z) ⟨?_, ?_, [], upd_same, rfl, fun z hz => absurd hz List.not_mem_nil⟩ (fun i H' _ q => SqL.of q.2.1) ?_ ?_
    · exact (same_new hp).trans (same_new hD)
    · rw [upd_ne np, upd_same]
    · rintro i x H' hx ⟨sm, hp', cs, hD', hl, hc⟩
      obtain ⟨u, rfl⟩ := int_at hx
      refine ⟨rfl, ?_⟩
      refine ⟨_, rfl, u, rfl, _, hD', ?_, fun b o z => ?_, ?_, cs ++ [if u < 0 then -u else u], ?_, ?_, ?_⟩
      · have hi := (List.getElem?_eq_some_iff.mp hx).1
        rw [List.length_map] at hi ⊢
        exact small1000 (by omega)
      · rw [upd_ne (ne_of_none z hD0)]
        exact sm _ _ z
      · rw [upd_ne np]
        exact hp'
      · rw [upd_same, List.map_append]
        rfl
      · rw [List.length_append, hl]
        rfl
      · intro z hz
        rcases List.mem_append.mp hz with hz | hz
        · exact hc z hz
        · rw [List.mem_singleton.mp hz]
          split <;> omega
    · rintro H' ⟨sm, hp', cs, hD', hl, hc⟩
      rw [List.length_map] at hl
      refine ⟨(by show 2 ≤ sizeLine; decide), fun a ha => ?_⟩
      have na : D ≠ a := ne_of_none hD' ha
      have ha0 : H a = none := sm.free ha
      refine k _ a D cs (sm.trans (same_new ha)) ha0 hD0 ⟨na.symm, upd_same, ?_, by omega, hc⟩
      rw [upd_ne na]
      exact hD'
end
/-- the deck's two lists -/
def Bd (a c : Addr) : Addr → Prop := fun b => b = a ∨ b = c
theorem bd_ne {a c b : Addr} {H : Hp} {o : HO} (e : H b = some o) (nl : ∀ xs, o ≠ .lst xs) {xs ys : List V} (ha : H a = some (.lst xs)) (hc : H c = some (.lst ys)) : ¬ Bd a c b := by
  rintro (h | h)
  · rw [h, ha] at e
    exact nl _ (Option.some.inj e).symm
  · rw [h, hc] at e
    exact nl _ (Option.some.inj e).symm
theorem bd_new {a c p : Addr} {H : Hp} {xs ys : List V} (n : H p = none) (ha : H a = some (.lst xs)) (hc : H c = some (.lst ys)) : ¬ Bd a c p := by
  rintro (h | h)
  · rw [h, ha] at n
    cases n
  · rw [h, hc] at n
    cases n
theorem keep_upd {a c x : Addr} {H : Hp} {o : HO} (h : Bd a c x) : Keep (Bd a c) H (upd H x o) := fun b u n e => by
  rw [upd_ne (fun z : b = x => n (z.symm ▸ h))]
  exact e
section
variable {P : Program} {w : World} {K : PySem.W.Frag} {mg : Str → Option Value} {base : Heap}
def spDraw : Sp := fun vs H Q _ => ∃ (a c : Addr) (cells : List Int) (n m : Int), vs = [.ref a, .int m] ∧ DeckAt a c cells n H ∧ 1 ≤ m ∧ m ≤ 1000000 ∧ 0 ≤ n ∧ n ≤ 1000000 ∧
  ∀ (H' : Hp) (cells' : List Int) (r : Int), 0 ≤ r → r < m → DeckAt a c cells' (n + 1) H' → Keep (Bd a c) H H' → Q (.int r) H'
theorem ok_draw {f : Addr} {fd : FuncData} (F : Fun K "_law_draw" "_law_draw" sDraw f fd) (mLen : mg "len" = none) (mInt : mg "int" = none) : FnOk P w K mg base CX0 1 f fd ["_law_deck_here", "_law_many"] spDraw := by
  refine F.ok scDraw (fun vs H Q E h => ?_) (fun cdv A outer s H vs Q E hr h => ?_)
  · obtain ⟨a, c, cells, n, m, rfl, _⟩ := h
    rfl
  · obtain ⟨a, c, cells, n, m, rfl, ⟨nac, ha, hc, hlen, hpos⟩, m1, m2, n1, n2, k⟩ := h
    refine ⟨_, pss_cons (ps_asg (pe_op op_add (pe_ix ix_list (pv 0) pe_int (fun _ _ => rfl)) pe_int) (pg_sub (pv 0) pe_int set_list))
      (pss_cons (ps_asg (pe_tup (pa_cons pe_int (pa_cons (pe_un un_neg pe_int) pa_nil))) (pg_tup rfl (pgs_cons (pg_name (i := 2) scDraw.nd rfl (.inl rfl)) (pgs_cons (pg_name (i := 3) scDraw.nd rfl (.inl rfl)) pgs_nil))))
      (Evl.pss_cut (ps_if (pt_cmpR op_gt (pe_callB call_len_seq (by rfl) mLen PySem.boot_len (pa_cons (pe_ix ix_list (pv 0) pe_int (fun _ _ => rfl)) pa_nil)) pe_int (nomark _))
        (pss_cons (ps_set (i := 3) scDraw.nd rfl (.inl rfl) (pe_op op_mod (pe_callTy call_int1 (by rfl) mInt (by decide +kernel) (pa_cons (pe_ix ix_list (pv 0) pe_int (fun _ _ => rfl)) pa_nil)) (pe_callB call_len_seq (by rfl) mLen PySem.boot_len (pa_cons (pe_ix ix_list (pv 0) pe_int (fun _ _ => rfl)) pa_nil))))
        (pss_one (ps_set (i := 2) scDraw.nd rfl (.inl rfl) (pe_ix ix_list (pe_ix ix_list (pv 0) pe_int (fun _ _ => rfl)) (pv 3) (fun _ _ => rfl)))))
        pss_nil)
      (pss_cons (ps_if (pt_cmpR op_ge (pv 2) (pe_op op_pow pe_int pe_int) (nomark _))
        (pss_cons (ps_asg (pe_op op_fdivW (pe_callTy call_int1 (by rfl) mInt (by decide +kernel) (pa_cons (pv 2) pa_nil)) (pv 1)) (pg_sub (pe_ix ix_list (pv 0) pe_int (fun _ _ => rfl)) (pv 3) set_list))
          (pss_one (ps_ret (pe_op op_mod (pe_callTy call_int1 (by rfl) mInt (by decide +kernel) (pa_cons (pv 2) pa_nil)) (pv 1)))))
        pss_nil)
      (pss_cons (ps_set (i := 4) scDraw.nd rfl (.inl rfl) (pe_op op_add (pe_op op_add (pe_op op_mod (pe_callTy call_int1 (by rfl) mInt (by decide +kernel) (pa_cons (pv 2) pa_nil)) pe_int) (pe_op op_mul pe_int (pe_ix ix_list (pv 0) pe_int (fun _ _ => rfl)))) pe_int))
      (pss_one (ps_ret (pe_op op_mod (pe_callTy call_int1 (by rfl) mInt (by decide +kernel) (pa_cons (pe_op op_mod (pe_callTy call_int1 (by rfl) mInt (by decide +kernel) (pa_cons (pe_op op_pow (pv 4) pe_int) pa_nil)) pe_int) pa_nil)) (pv 1)))))))), ?_⟩
    refine ⟨.ref a, rfl, a, _, 1, _, rfl, rfl, SqL.of ha, atI_nat (j := 1) rfl, n, 1, rfl, rfl, .ref a, rfl, a, _, 1, 1, rfl, rfl, ha, rfl, ?_⟩
    have hA1 : upd H a (.lst [.ref c, .int (n + 1)]) a = some (.lst [.ref c, .int (n + 1)]) := upd_same
    have hC1 : upd H a (.lst [.ref c, .int (n + 1)]) c = some (.lst (cells.map V.int)) := by
      rw [upd_ne nac.symm]
      exact hc
    have k1 : Keep (Bd a c) H (upd H a (.lst [.ref c, .int (n + 1)])) := keep_upd (.inl rfl)
    refine ⟨1, rfl, (by show 2 ≤ sizeLine; decide), fun T hT => ?_⟩
    have k2 := k1.trans (keep_new (B := Bd a c) (o := .tup [.int 0, .int (-1)]) hT)
    have hA2 : upd (upd H a (.lst [.ref c, .int (n + 1)])) T (.tup [.int 0, .int (-1)]) a = some (.lst [.ref c, .int (n + 1)]) := by
      rw [upd_ne (ne_of_none hA1 hT)]
      exact hA1
    have hC2 : upd (upd H a (.lst [.ref c, .int (n + 1)])) T (.tup [.int 0, .int (-1)]) c = some (.lst (cells.map V.int)) := by
      rw [upd_ne (ne_of_none hC1 hT)]
      exact hC1
    have hT2 : upd (upd H a (.lst [.ref c, .int (n + 1)])) T (.tup [.int 0, .int (-1)]) T = some (.tup [.int 0, .int (-1)]) := upd_same
    refine ⟨T, _, rfl, SqT.of hT2, rfl, .int 0, [.int (-1)], rfl, .int (-1), [], rfl, rfl, ?_⟩
    refine ⟨fun σ' H' => ∃ cell at_ : Int, σ' = [some (.ref a), some (.int m), some (.int cell), some (.int at_), none] ∧ Keep (Bd a c) H H' ∧ H' a = some (.lst [.ref c, .int (n + 1)]) ∧ H' c = some (.lst (cells.map V.int)) ∧ 0 ≤ cell ∧ (10 ^ 18 ≤ cell → ∃ j : Nat, j < cells.length ∧ at_ = (j : Int)), ?_, ?_⟩
    · refine ⟨.ref a, rfl, a, _, 0, .ref c, rfl, rfl, SqL.of hA2, atI_nat (j := 0) rfl, c, _, rfl, .inl (SqL.of hC2), _, _, rfl, rfl, _, rfl, ite2 (fun h0 => ?_) (fun h0 => ?_)⟩
      · have h0 := of_decide_eq_true h0
        rw [List.length_map] at h0
        obtain ⟨j, hj, ej⟩ : ∃ j : Nat, j < cells.length ∧ (n + 1) % ((cells.map V.int).length : Int) = (j : Int) := by
          rw [List.length_map]
          have x1 := Int.emod_nonneg (n + 1) (b := (cells.length : Int)) (by omega)
          have x2 := Int.emod_lt_of_pos (n + 1) (b := (cells.length : Int)) h0
          exact ⟨((n + 1) % (cells.length : Int)).toNat, by omega, by omega⟩
        have gj : (cells.map V.int)[j]? = some (.int cells[j]) := by
          rw [List.getElem?_map, List.getElem?_eq_getElem hj]
          rfl
        refine ⟨.ref a, rfl, a, _, 1, _, rfl, rfl, SqL.of hA2, atI_nat (j := 1) rfl, .inl ⟨n + 1, rfl, .ref a, rfl, a, _, 0, .ref c, rfl, rfl, SqL.of hA2, atI_nat (j := 0) rfl, c, _, rfl, .inl (SqL.of hC2), _, _, rfl, rfl, (by rw [List.length_map]; exact h0), ?_⟩⟩
        refine ⟨.ref a, rfl, a, _, 0, .ref c, rfl, rfl, SqL.of hA2, atI_nat (j := 0) rfl, .int j, by rw [← ej]; rfl, c, _, _, _, rfl, rfl, SqL.of hC2, atI_nat gj, ?_⟩
        exact ⟨cells[j], j, by rw [← ej]; rfl, k2, hA2, hC2, hpos _ (List.getElem_mem hj), fun _ => ⟨j, hj, rfl⟩⟩
      · exact ⟨0, -1, rfl, k2, hA2, hC2, Int.le_refl _, fun z => absurd z (by decide)⟩
    · rintro σ' H3 ⟨cell, at_, rfl, k3, hA3, hC3, hp, hj⟩
      refine ⟨_, rfl, 10, 18, rfl, rfl, ⟨by decide, by decide, by decide⟩, _, _, rfl, rfl, _, rfl, ite2 (fun h0 => ?_) (fun h0 => ?_)⟩
      · obtain ⟨j, hj2, ea⟩ := hj (of_decide_eq_true h0)
        subst ea
        refine ⟨_, rfl, .inl ⟨cell, rfl, _, rfl, _, _, rfl, rfl, wide_div (b := 20) (by omega) (by omega) (by decide) (by decide), .ref a, rfl, a, _, 0, .ref c, rfl, rfl, SqL.of hA3, atI_nat (j := 0) rfl, _, rfl, c, _, _, j, rfl, rfl, hC3, Evl.ixN_nat (by rw [List.length_map]; exact hj2), ?_⟩⟩
        refine ⟨_, rfl, .inl ⟨cell, rfl, _, rfl, _, _, rfl, rfl, (by omega), ?_⟩⟩
        refine k _ (cells.set j (cell / m)) _ (Int.emod_nonneg _ (by omega)) (Int.emod_lt_of_pos _ (by omega)) ⟨nac, ?_, ?_, ?_, ?_⟩ (k3.trans (keep_upd (.inr rfl)))
        · rw [upd_ne nac]
          exact hA3
        · rw [upd_same, List.map_set]
        · rw [List.length_set]
          exact hlen
        · intro z hz
          rcases List.mem_or_eq_of_mem_set hz with hz | hz
          · exact hpos z hz
          · rw [hz]
            exact Int.ediv_nonneg hp (by omega)
      · have b1 := Int.emod_nonneg cell (b := 2147483563) (by decide)
        have b2 := Int.emod_lt_of_pos cell (b := 2147483563) (by decide)
        refine ⟨_, rfl, .inl ⟨cell, rfl, _, _, rfl, rfl, (by show (0 : Int) < 2147483563; decide), .ref a, rfl, a, _, 1, _, rfl, rfl, SqL.of hA3, atI_nat (j := 1) rfl, 8117, n + 1, rfl, rfl, .inl ⟨by decide, by decide⟩, _, _, rfl, rfl, _, _, rfl, rfl, ?_⟩⟩
        refine ⟨_, rfl, cell % 2147483563 + 8117 * (n + 1) + 3, 5, rfl, rfl, ⟨by decide, by decide, by omega⟩, .inl ⟨_, rfl, _, _, rfl, rfl, (by show (0 : Int) < 2147483629; decide), .inl ⟨_, rfl, _, rfl, _, _, rfl, rfl, (by omega), ?_⟩⟩⟩
        exact k _ cells _ (Int.emod_nonneg _ (by omega)) (Int.emod_lt_of_pos _ (by omega)) ⟨nac, hA3, hC3, hlen, hpos⟩ k3
end
section
variable {P : Program} {w : World} {K : PySem.W.Frag} {mg : Str → Option Value} {base : Heap}
def spOne (K : PySem.W.Frag) : Sp := fun vs H Q _ => ∃ (a c l : Addr) (cells : List Int) (n : Int) (xs : List V), vs = [.ref a, .ref l] ∧ DeckAt a c cells n H ∧ 0 ≤ n ∧ n ≤ 1000000 ∧ SqL K H l xs ∧ ¬ Bd a c l ∧ xs ≠ [] ∧ xs.length ≤ 1000 ∧
  ∀ (H' : Hp) (cells' : List Int) (x : V), x ∈ xs → DeckAt a c cells' (n + 1) H' → Keep (Bd a c) H H' → Q x H'
theorem ok_one {f fD : Addr} {fd fdD : FuncData} (F : Fun K "_law_one" "_law_one" sOne f fd) (D : FnOk P w K mg base CX0 1 fD fdD ["_law_deck_here", "_law_many"] spDraw) (FD : Fun K "_law_draw" "_law_draw" sDraw fD fdD) (bD : Binds K fdD ["_law_deck_here", "_law_many"] [])
    (gD : mg "_law_draw" = some (.ref fD)) (mLen : mg "len" = none) : FnOk P w K mg base CX0 2 f fd ["_law_deck_here", "_law_items"] (spOne K) := by
  refine F.ok scOne (fun vs H Q E h => ?_) (fun cdv A outer s H vs Q E hr h => ?_)
  · obtain ⟨a, c, l, cells, n, xs, rfl, _⟩ := h
    rfl
  · obtain ⟨a, c, l, cells, n, xs, rfl, dk, n0, n1, hL, nb, hne, hlen, k⟩ := h
    refine ⟨_, pss_one (ps_ret (pe_ix ix_list (pv 1) (pe_call D hr (by rfl) gD FD.kp bD .nil pass0 (pa_cons (pv 0) (pa_cons (pe_callB call_len_seq (by rfl) mLen PySem.boot_len (pa_cons (pv 1) pa_nil)) pa_nil))) (fun _ _ => rfl))), ?_⟩
    have lp : 0 < xs.length := List.length_pos_iff.mpr hne
    refine ⟨_, rfl, _, rfl, _, rfl, l, xs, rfl, .inl hL, a, c, cells, n, _, rfl, dk, by omega, by omega, n0, n1, fun H' cells' r r0 r1 dk' kp => ?_⟩
    have hr2 : r.toNat < xs.length := by omega
    refine ⟨l, xs, r, xs[r.toNat], rfl, rfl, kp.seqL nb hL, ?_, k H' cells' _ (List.getElem_mem hr2) dk' kp⟩
    have e := atI_nat (List.getElem?_eq_getElem hr2)
    rw [show ((r.toNat : Nat) : Int) = r by omega] at e
    exact e
end
/-- the built-in names that nobody stores, and the program's constants -/
structure Mg (mg : Str → Option Value) : Prop where
  len : mg "len" = none
  int : mg "int" = none
  range : mg "range" = none
  tuple : mg "tuple" = none
  list : mg "list" = none
  all : mg "all" = none
  abs : mg "abs" = none
  bool : mg "bool" = none
  repr : mg "repr" = none
  any : mg "any" = none
  enum : mg "enumerate" = none
  max : mg "max" = none
  zip : mg "zip" = none
  dict : mg "dict" = none
  mrows : ∃ t, mg "MAX_ROWS" = some (.int 400 t)
  le : ∃ t, mg "LETTERS" = some (.str "abc" t)
  isi : mg "isinstance" = none
def tyN : PyData → String
  | .none => "NoneType"
  | .bool _ => "bool"
  | .int _ => "int"
  | .str _ => "str"
  | .list _ => "list"
  | .tuple _ => "tuple"
  | .dict _ => "dict"
theorem tyD {B : Addr → Prop} {K : PySem.W.Frag} {H : Hp} {v : V} {d : PyData} (h : Dt B K H v d) : TyX K H v (.type (tyN d)) := by
  cases h with
  | non => exact .base .non
  | bl b => exact .base (.bl b)
  | int i => exact .base (.int i)
  | str x => exact .base (.str x)
  | lst nb ne hs ha =>
    rcases hs with hs | ⟨o, hs⟩
    · exact .base (.lst hs)
    · exact .base (.frz hs)
  | tup nb hs ha =>
    rcases hs with hs | ⟨o, hs⟩
    · exact .base (.tup hs)
    · exact .fTuple hs
  | emp nb e => exact .base (.dK e)
def isInt : PyData → Bool
  | .int _ => true
  | .bool _ => true
  | _ => false
def isBool : PyData → Bool
  | .bool _ => true
  | _ => false
def isTup : PyData → Bool
  | .tuple _ => true
  | _ => false
theorem kitI {K : PySem.W.Frag} (d : PyData) : PySem.W.kitOne K (.type (tyN d)) (.type "int") = some (isInt d) := by
  cases d with
  | none => exact kit_ty (show kitB "NoneType" "int" = some false by decide +kernel)
  | bool _ => exact kit_ty (show kitB "bool" "int" = some true by decide +kernel)
  | int _ => exact kit_ty (show kitB "int" "int" = some true by decide +kernel)
  | str _ => exact kit_ty (show kitB "str" "int" = some false by decide +kernel)
  | list _ => exact kit_ty (show kitB "list" "int" = some false by decide +kernel)
  | tuple _ => exact kit_ty (show kitB "tuple" "int" = some false by decide +kernel)
  | dict _ => exact kit_ty (show kitB "dict" "int" = some false by decide +kernel)
theorem kitB' {K : PySem.W.Frag} (d : PyData) : PySem.W.kitOne K (.type (tyN d)) (.type "bool") = some (isBool d) := by
  cases d with
  | none => exact kit_ty (show kitB "NoneType" "bool" = some false by decide +kernel)
  | bool _ => exact kit_ty (show kitB "bool" "bool" = some true by decide +kernel)
  | int _ => exact kit_ty (show kitB "int" "bool" = some false by decide +kernel)
  | str _ => exact kit_ty (show kitB "str" "bool" = some false by decide +kernel)
  | list _ => exact kit_ty (show kitB "list" "bool" = some false by decide +kernel)
  | tuple _ => exact kit_ty (show kitB "tuple" "bool" = some false by decide +kernel)
  | dict _ => exact kit_ty (show kitB "dict" "bool" = some false by decide +kernel)
theorem kitT {K : PySem.W.Frag} (d : PyData) : PySem.W.kitOne K (.type (tyN d)) (.type "tuple") = some (isTup d) := by
  cases d with
  | none => exact kit_ty (show kitB "NoneType" "tuple" = some false by decide +kernel)
  | bool _ => exact kit_ty (show kitB "bool" "tuple" = some false by decide +kernel)
  | int _ => exact kit_ty (show kitB "int" "tuple" = some false by decide +kernel)
  | str _ => exact kit_ty (show kitB "str" "tuple" = some false by decide +kernel)
  | list _ => exact kit_ty (show kitB "list" "tuple" = some false by decide +kernel)
  | tuple _ => exact kit_ty (show kitB "tuple" "tuple" = some true by decide +kernel)
  | dict _ => exact kit_ty (show kitB "dict" "tuple" = some false by decide +kernel)
/-- an integer, no bool, within the bounds -/
def numD (d : PyData) (lo hi : Int) : Bool := match d with
  | .int i => decide (lo ≤ i) && decide (i ≤ hi)
  | _ => false
def spNum (K : PySem.W.Frag) : Sp := fun vs H Q _ => ∃ (B : Addr → Prop) (x : V) (d : PyData) (lo hi : Int), vs = [x, .int lo, .int hi] ∧ Dt B K H x d ∧ Q (.bl (numD d lo hi)) H
def intD : PyData → Bool
  | .int _ => true
  | _ => false
def spInt (K : PySem.W.Frag) : Sp := fun vs H Q _ => ∃ (B : Addr → Prop) (x : V) (d : PyData), vs = [x] ∧ Dt B K H x d ∧ Q (.bl (intD d)) H
def itemOk (n : Int) (d : PyData) : Bool := match d with
  | .none => true
  | d => numD d 0 (n - 1)
def rowD (L n : Int) (d : PyData) : Bool := match d with
  | .tuple xs => decide ((xs.length : Int) = L) && xs.all (itemOk n)
  | _ => false
theorem Dt.len_le {B : Addr → Prop} {K : PySem.W.Frag} {H : Hp} {a : Addr} {ds : List PyData} (h : Dt B K H (.ref a) (.tuple ds)) : ∃ xs, SqT K H a xs ∧ DtAll B K H xs ds ∧ xs.length = ds.length := by
  cases h with
  | tup nb hs ha => exact ⟨_, .inl hs, ha, ha.len⟩
theorem Dt.tup_ref {B : Addr → Prop} {K : PySem.W.Frag} {H : Hp} {v : V} {ds : List PyData} (h : Dt B K H v (.tuple ds)) : ∃ a xs, v = .ref a ∧ ¬ B a ∧ SqT K H a xs ∧ DtAll B K H xs ds ∧ xs.length = ds.length := by
  cases h with
  | tup nb hs ha => exact ⟨_, _, rfl, nb, .inl hs, ha, ha.len⟩
theorem Dt.tup_rd {B : Addr → Prop} {K : PySem.W.Frag} {H : Hp} {v : V} {ds : List PyData} (h : Dt B K H v (.tuple ds)) : ∃ a xs, v = .ref a ∧ ¬ B a ∧ Rd H a (.tup xs) ∧ DtAll B K H xs ds ∧ xs.length = ds.length := by
  cases h with
  | tup nb hs ha => exact ⟨_, _, rfl, nb, hs, ha, ha.len⟩
mutual
theorem Dt.off {B : Addr → Prop} {K : PySem.W.Frag} {H : Hp} {q : Addr} (n : H q = none) : ∀ (d : PyData) (v : V), Dt B K H v d → Dt (fun b => B b ∨ b = q) K H v d
  | .none, _, h => by cases h; exact .non
  | .bool _, _, h => by cases h; exact .bl _
  | .int _, _, h => by cases h; exact .int _
  | .str _, _, h => by cases h; exact .str _
  | .list ds, _, h => by
    cases h with
    | lst nb ne hs ha =>
      refine .lst (fun z => ?_) ne hs (DtAll.off n ds _ ha)
      rcases z with z | z
      · exact nb z
      · rw [z] at hs
        rcases hs with e | ⟨o, e⟩ <;> (rw [n] at e; cases e)
  | .tuple ds, _, h => by
    cases h with
    | tup nb hs ha =>
      refine .tup (fun z => ?_) hs (DtAll.off n ds _ ha)
      rcases z with z | z
      · exact nb z
      · rw [z] at hs
        rcases hs with e | ⟨o, e⟩ <;> (rw [n] at e; cases e)
  | .dict _, _, h => by
    cases h with
    | emp nb e =>
      refine .emp (fun z => ?_) e
      rcases z with z | z
      · exact nb z
      · rw [z, n] at e
        cases e
theorem DtAll.off {B : Addr → Prop} {K : PySem.W.Frag} {H : Hp} {q : Addr} (n : H q = none) : ∀ (ds : List PyData) (vs : List V), DtAll B K H vs ds → DtAll (fun b => B b ∨ b = q) K H vs ds
  | [], _, h => by cases h; exact .nil
  | d :: ds, _, h => by
    cases h with
    | cons h1 h2 => exact .cons (Dt.off n d _ h1) (DtAll.off n ds _ h2)
end
theorem same_dt {B : Addr → Prop} {K : PySem.W.Frag} {H H' : Hp} {v : V} {d : PyData} (s : Same H H') (h : Dt B K H v d) : Dt B K H' v d := Dt.keep (Keep.same s) d v h
theorem same_seqT {K : PySem.W.Frag} {H H' : Hp} {a : Addr} {xs : List V} (s : Same H H') (h : SqT K H a xs) : SqT K H' a xs := Keep.seqT (B := fun _ => False) (Keep.same s) (fun z => z) h
theorem all_take {f : PyData → Bool} {ds : List PyData} : ((ds.map f).all id) = ds.all f := by
  rw [List.all_map]
  rfl
mutual
def nodes : PyData → Nat
  | .list xs => 1 + nodesAll xs
  | .tuple xs => 1 + nodesAll xs
  | .none => 1
  | .bool _ => 1
  | .int _ => 1
  | .str _ => 1
  | .dict _ => 1
def nodesAll : List PyData → Nat
  | [] => 0
  | x :: xs => nodes x + nodesAll xs
end
theorem nodes_pos : ∀ d : PyData, 1 ≤ nodes d
  | .list xs => by unfold nodes; omega
  | .tuple xs => by unfold nodes; omega
  | .none => by unfold nodes; omega
  | .bool _ => by unfold nodes; omega
  | .int _ => by unfold nodes; omega
  | .str _ => by unfold nodes; omega
  | .dict _ => by unfold nodes; omega
theorem nodes_tup (xs : List PyData) : nodes (.tuple xs) = 1 + nodesAll xs := by rw [nodes]
theorem nodes_lst (xs : List PyData) : nodes (.list xs) = 1 + nodesAll xs := by rw [nodes]
theorem nodesAll_cons (x : PyData) (xs : List PyData) : nodesAll (x :: xs) = nodes x + nodesAll xs := by rw [nodesAll]
theorem nodesAll_nil : nodesAll [] = 0 := by rw [nodesAll]
theorem len_nodes : ∀ xs : List PyData, xs.length ≤ nodesAll xs
  | [] => Nat.zero_le _
  | x :: xs => by
    have := len_nodes xs
    have := nodes_pos x
    rw [nodesAll_cons, List.length_cons]
    omega
theorem mem_nodes : ∀ {xs : List PyData} {x : PyData}, x ∈ xs → nodes x ≤ nodesAll xs
  | [], _, h => absurd h List.not_mem_nil
  | y :: ys, x, h => by
    rw [nodesAll_cons]
    rcases List.mem_cons.mp h with e | e
    · rw [e]
      omega
    · have := mem_nodes e
      omega
theorem nodesAll_append : ∀ xs ys : List PyData, nodesAll (xs ++ ys) = nodesAll xs + nodesAll ys
  | [], ys => by rw [List.nil_append, nodesAll_nil, Nat.zero_add]
  | x :: xs, ys => by rw [List.cons_append, nodesAll_cons, nodesAll_cons, nodesAll_append xs ys, Nat.add_assoc]
def BInv (f : PyData → Bool) (ds : List PyData) (H : Hp) (D : Addr) (i : Nat) (H' : Hp) : Prop := Same H H' ∧ H' D = some (.lst ((ds.take i).map fun d => V.bl (f d)))
theorem bturn {B : Addr → Prop} {K : PySem.W.Frag} {H H' : Hp} {D : Addr} {xs : List V} {ds : List PyData} {f : PyData → Bool} {i : Nat} {y : V} (ha : DtAll B K H xs ds) (hz : ds.length < sizeLine) (hD : H D = none) (hy : xs[i]? = some y) (p : BInv f ds H D i H') :
    ∃ d, d ∈ ds ∧ Dt B K H' y d ∧ ∀ H'', Same H' H'' → ∀ b, b = f d → ∃ acc, H'' D = some (.lst acc) ∧ acc.length < sizeLine ∧ BInv f ds H D (i + 1) (upd H'' D (.lst (acc ++ [V.bl b]))) := by
  obtain ⟨sm, hD'⟩ := p
  obtain ⟨d, hd1, hd2⟩ := ha.getV hy
  refine ⟨d, List.mem_of_getElem? hd1, same_dt sm hd2, fun H'' s2 b eb => ⟨_, s2 _ _ hD', ?_, fun p o z => ?_, ?_⟩⟩
  · rw [List.length_map, List.length_take]
    omega
  · rw [upd_ne (ne_of_none z hD)]
    exact s2 _ _ (sm _ _ z)
  · rw [upd_same, List.take_add_one, hd1, List.map_append, eb]
    rfl
theorem bend {K : PySem.W.Frag} {H H' : Hp} {D : Addr} {n : Nat} {ds : List PyData} {f : PyData → Bool} (e : n = ds.length) (p : BInv f ds H D n H') : Same H H' ∧ SqL K H' D ((ds.map f).map V.bl) := by
  obtain ⟨sm, hD'⟩ := p
  rw [e, List.take_length] at hD'
  refine ⟨sm, SqL.of ?_⟩
  rw [hD', List.map_map]
  rfl
def rLen (K : PySem.W.Frag) : List V → Hp → VK → Prop := fun xs H Q => ∃ p ys, xs = [.ref p] ∧ (SqL K H p ys ∨ SqT K H p ys) ∧ Q (.int ys.length) H
theorem three_of {ds : List PyData} (h : ds.length = 3) : ∃ l r e, ds = [l, r, e] := by
  match ds, h with
  | [l, r, e], _ => exact ⟨l, r, e, rfl⟩
theorem dt_three {B : Addr → Prop} {K : PySem.W.Frag} {H : Hp} {xs : List V} {l r e : PyData} (h : DtAll B K H xs [l, r, e]) : ∃ vl vr ve, xs = [vl, vr, ve] ∧ Dt B K H vl l ∧ Dt B K H vr r ∧ Dt B K H ve e := by
  cases h with
  | cons h1 h =>
    cases h with
    | cons h2 h =>
      cases h with
      | cons h3 h =>
        cases h
        exact ⟨_, _, _, rfl, h1, h2, h3⟩
/-! ### a list, a tuple beside an empty one -/
section
variable {X : Cx}
def rNilL (K : PySem.W.Frag) (g : Bool → Bool) : R2 := fun x y H Q => ∃ (l b : Addr) (xs : List V), x = .ref l ∧ y = .ref b ∧ SqL K H l xs ∧ SqL K H b [] ∧ Q (.bl (g (decide (xs = [])))) H
def rNilT (K : PySem.W.Frag) : R2 := fun x y H Q => ∃ (l b : Addr) (xs : List V), x = .ref l ∧ y = .ref b ∧ SqT K H l xs ∧ SqT K H b [] ∧ Q (.bl (decide (xs = []))) H
theorem op_eqNilL (hu : X.A.units < cLine) : OpR X (compareOp .Eq) (rNilL X.K id) := by
  intro pins s σ H x y v u Q I rx ry h
  obtain ⟨l, b, xs, rfl, rfl, hl, hb, q⟩ := h
  cases rx
  cases ry
  obtain ⟨its, rv, pl, _⟩ := I.list hl
  obtain ⟨its2, rv2, pl2, _⟩ := I.list hb
  cases rv2
  have hn := rv.length
  cases xs with
  | nil =>
    cases rv
    exact SeqAt.eq_listAt (e := fun _ => true) pl.isList pl2.isList rfl hu (fun j h1 _ => absurd h1 (Nat.not_lt_zero _)) ⟨.bl _, H, I, rfl, q⟩
  | cons z zs =>
    refine SeqAt.eq_list_lengthsAt pl.isList pl2.isList ?_ hu ⟨.bl _, H, I, rfl, q⟩
    rw [List.size_toArray, ← hn]
    rfl
theorem op_neNilL (hu : X.A.units < cLine) : OpR X (compareOp .NotEq) (rNilL X.K not) := by
  intro pins s σ H x y v u Q I rx ry h
  obtain ⟨l, b, xs, rfl, rfl, hl, hb, q⟩ := h
  cases rx
  cases ry
  obtain ⟨its, rv, pl, _⟩ := I.list hl
  obtain ⟨its2, rv2, pl2, _⟩ := I.list hb
  cases rv2
  have hn := rv.length
  cases xs with
  | nil =>
    cases rv
    exact SeqAt.RcNeAt.lists (e := fun _ => true) pl.isList pl2.isList rfl hu (fun j h1 _ => absurd h1 (Nat.not_lt_zero _)) _ _ _ _ ⟨.bl _, H, I, rfl, q⟩
  | cons z zs =>
    refine SeqAt.RcNeAt.lists_lengths pl.isList pl2.isList ?_ hu _ _ _ _ ⟨.bl _, H, I, rfl, q⟩
    rw [List.size_toArray, ← hn]
    rfl
theorem op_eqNilT (hu : X.A.units < cLine) : OpR X (compareOp .Eq) (rNilT X.K) := by
  intro pins s σ H x y v u Q I rx ry h
  obtain ⟨l, b, xs, rfl, rfl, hl, hb, q⟩ := h
  cases rx
  cases ry
  obtain ⟨its, rv, pl, _⟩ := I.tuple hl
  obtain ⟨its2, rv2, pl2, _⟩ := I.tuple hb
  cases rv2
  have hn := rv.length
  refine SeqAt.eq_tupleAt (e := fun _ => true) pl pl2 hu (fun j h1 h2 => absurd h2 (Nat.not_lt_zero _)) ⟨.bl _, H, I, ?_, q⟩
  cases xs with
  | nil =>
    cases rv
    rfl
  | cons z zs =>
    show Value.bool _ = Value.bool _
    congr 1
    rw [List.size_toArray, ← hn]
    rfl
end
/-- what a comprehension holds that picks the items that fail -/
def FInv (f : PyData → Bool) (ds : List PyData) (H : Hp) (D : Addr) (i : Nat) (H' : Hp) : Prop :=
  Same H H' ∧ ∃ acc : List V, H' D = some (.lst acc) ∧ acc.length ≤ i ∧ (acc = [] ↔ (ds.take i).all f = true)
theorem fstart {f : PyData → Bool} {ds : List PyData} {H : Hp} {D : Addr} (hD : H D = none) : FInv f ds H D 0 (upd H D (.lst [])) :=
  ⟨same_new hD, [], upd_same, Nat.le_refl _, by simp⟩
theorem fturn {B : Addr → Prop} {K : PySem.W.Frag} {H H' : Hp} {D : Addr} {xs : List V} {ds : List PyData} {f : PyData → Bool} {i : Nat} {y : V} (ha : DtAll B K H xs ds) (hz : ds.length < sizeLine) (hD : H D = none) (hy : xs[i]? = some y) (p : FInv f ds H D i H') :
    ∃ d, d ∈ ds ∧ Dt B K H' y d ∧ (∀ H'', Same H' H'' → f d = true → FInv f ds H D (i + 1) H'') ∧
      ∀ H'', Same H' H'' → f d = false → ∃ acc, H'' D = some (.lst acc) ∧ acc.length < sizeLine ∧ FInv f ds H D (i + 1) (upd H'' D (.lst (acc ++ [y]))) := by
  obtain ⟨sm, acc, hD', hl, hi⟩ := p
  obtain ⟨d, hd1, hd2⟩ := ha.getV hy
  have hlt := (List.getElem?_eq_some_iff.mp hd1).1
  have ht : (ds.take (i + 1)).all f = ((ds.take i).all f && f d) := by
    rw [List.take_add_one, hd1, List.all_append]
    simp
  refine ⟨d, List.mem_of_getElem? hd1, same_dt sm hd2, fun H'' s2 fd => ⟨fun b o z => s2 b o (sm b o z), acc, s2 _ _ hD', by omega, ?_⟩, fun H'' s2 fd => ⟨acc, s2 _ _ hD', by omega, fun b o z => ?_, _, upd_same, ?_, ?_⟩⟩
  · rw [ht, fd, Bool.and_true]
    exact hi
  · rw [upd_ne (ne_of_none z hD)]
    exact s2 _ _ (sm _ _ z)
  · rw [List.length_append, List.length_singleton]
    omega
  · rw [ht, fd, Bool.and_false]
    exact ⟨fun z => absurd z (by simp), fun z => absurd z Bool.false_ne_true⟩
theorem fend {K : PySem.W.Frag} {H H' : Hp} {D : Addr} {n : Nat} {ds : List PyData} {f : PyData → Bool} (e : n = ds.length) (p : FInv f ds H D n H') : Same H H' ∧ ∃ acc, SqL K H' D acc ∧ decide (acc = []) = ds.all f := by
  obtain ⟨sm, acc, hD', hl, hi⟩ := p
  rw [e, List.take_length] at hi
  refine ⟨sm, acc, SqL.of hD', ?_⟩
  cases z : ds.all f
  · exact decide_eq_false (fun q => by rw [hi.mp q] at z; cases z)
  · exact decide_eq_true (hi.mpr z)
theorem itemOk_ne {B : Addr → Prop} {K : PySem.W.Frag} {H : Hp} {y : V} {d : PyData} {n : Int} (h : Dt B K H y d) (ne : y ≠ .non) : itemOk n d = numD d 0 (n - 1) := by
  cases h with
  | non => exact absurd rfl ne
  | bl _ => rfl
  | int _ => rfl
  | str _ => rfl
  | lst _ _ _ _ => rfl
  | tup _ _ _ => rfl
  | emp _ _ => rfl
theorem not_cases {b : Bool} (h : (!b) = true) : b = false := by
  cases b
  · rfl
  · cases h
theorem not_cases' {b : Bool} (h : ¬ (!b) = true) : b = true := by
  cases b
  · exact absurd rfl h
  · rfl
/-! ### while the deck is drawn from -/
theorem deck_upd {a c p : Addr} {cells : List Int} {n : Int} {H : Hp} {o : HO} (h : DeckAt a c cells n H) (np : ¬ Bd a c p) : DeckAt a c cells n (upd H p o) := by
  obtain ⟨h1, h2, h3, h4, h5⟩ := h
  refine ⟨h1, ?_, ?_, h4, h5⟩
  · rw [upd_ne (fun z : a = p => np (.inl z.symm))]
    exact h2
  · rw [upd_ne (fun z : c = p => np (.inr z.symm))]
    exact h3
theorem deck_off {a c p : Addr} {cells : List Int} {n : Int} {H : Hp} (h : DeckAt a c cells n H) (np : H p = none) : ¬ Bd a c p := bd_new np h.2.1 h.2.2.1
theorem deck_new {a c p : Addr} {cells : List Int} {n : Int} {H : Hp} {o : HO} (h : DeckAt a c cells n H) (np : H p = none) : DeckAt a c cells n (upd H p o) := deck_upd h (deck_off h np)
/-- a list that is made at D while the deck is drawn from: at most s draws an item -/
def CInv (a c D : Addr) (H0 : Hp) (G : V → Prop) (n0 s : Int) (j : Nat) (H' : Hp) : Prop :=
  ∃ (cells : List Int) (n' : Int) (acc : List V), DeckAt a c cells n' H' ∧ n0 ≤ n' ∧ n' ≤ n0 + s * j ∧ Keep (Bd a c) H0 H' ∧ H' D = some (.lst acc) ∧ acc.length = j ∧ ∀ v ∈ acc, G v
theorem cstart {a c D : Addr} {H0 : Hp} {G : V → Prop} {cells : List Int} {n0 s : Int} (dk : DeckAt a c cells n0 H0) (hD : H0 D = none) : CInv a c D H0 G n0 s 0 (upd H0 D (.lst [])) :=
  ⟨cells, n0, [], deck_new dk hD, Int.le_refl _, by simp, keep_new hD, upd_same, rfl, fun v z => absurd z List.not_mem_nil⟩
theorem cstep {a c D : Addr} {H0 H1 H2 : Hp} {G : V → Prop} {cells2 : List Int} {n0 s n1 n2 : Int} {j : Nat} {acc : List V} {v : V} (hD0 : H0 D = none) (nD : ¬ Bd a c D) (hj : j ≤ 1000) (h0 : n0 ≤ n1) (h1 : n1 ≤ n0 + s * j) (kp : Keep (Bd a c) H0 H1) (hD : H1 D = some (.lst acc)) (hl : acc.length = j)
    (hG : ∀ v ∈ acc, G v) (dk : DeckAt a c cells2 n2 H2) (h2 : n1 ≤ n2) (h3 : n2 ≤ n1 + s) (k2 : Keep (Bd a c) H1 H2) (g : G v) :
    ∃ acc', H2 D = some (.lst acc') ∧ acc'.length < sizeLine ∧ CInv a c D H0 G n0 s (j + 1) (upd H2 D (.lst (acc' ++ [v]))) := by
  refine ⟨acc, k2 _ _ nD hD, small1000 (by omega), cells2, n2, acc ++ [v], deck_upd dk nD, by omega, ?_, fun b o nb z => ?_, upd_same, ?_, fun u hu => ?_⟩
  · have e : s * ((j + 1 : Nat) : Int) = s * j + s := by
      rw [Int.natCast_add, Int.mul_add]
      simp
    rw [e]
    omega
  · rw [upd_ne (ne_of_none z hD0)]
    exact k2 _ _ nb (kp _ _ nb z)
  · rw [List.length_append, hl]
    rfl
  · rcases List.mem_append.mp hu with hu | hu
    · exact hG u hu
    · rw [List.mem_singleton.mp hu]
      exact g
/-- an item of a row: None, or the number of a state -/
def Gi (m : Int) (v : V) : Prop := v = .non ∨ ∃ k : Int, v = .int k ∧ 0 ≤ k ∧ k < m
def Ri (m : Int) (d : PyData) : Prop := d = .none ∨ ∃ k : Int, d = .int k ∧ 0 ≤ k ∧ k < m
theorem gi_dt {m : Int} : ∀ {acc : List V}, (∀ v ∈ acc, Gi m v) → ∃ ds : List PyData, (∀ (B : Addr → Prop) (K : PySem.W.Frag) (H : Hp), DtAll B K H acc ds) ∧ ds.length = acc.length ∧ ∀ d ∈ ds, Ri m d
  | [], _ => ⟨[], fun _ _ _ => .nil, rfl, fun d z => absurd z List.not_mem_nil⟩
  | v :: acc, h => by
    obtain ⟨ds, h1, h2, h3⟩ := gi_dt (acc := acc) fun u hu => h u (List.mem_cons_of_mem _ hu)
    rcases h v List.mem_cons_self with e | ⟨k, e, k0, k1⟩
    · subst e
      refine ⟨.none :: ds, fun B K H => .cons .non (h1 B K H), by rw [List.length_cons, List.length_cons, h2], fun d hd => ?_⟩
      rcases List.mem_cons.mp hd with hd | hd
      · exact .inl hd
      · exact h3 d hd
    · subst e
      refine ⟨.int k :: ds, fun B K H => .cons (.int k) (h1 B K H), by rw [List.length_cons, List.length_cons, h2], fun d hd => ?_⟩
      rcases List.mem_cons.mp hd with hd | hd
      · exact .inr ⟨k, hd, k0, k1⟩
      · exact h3 d hd
def Gb (v : V) : Prop := ∃ b, v = .bl b
theorem gb_dt : ∀ {acc : List V}, (∀ v ∈ acc, Gb v) → ∃ ds : List PyData, (∀ (B : Addr → Prop) (K : PySem.W.Frag) (H : Hp), DtAll B K H acc ds) ∧ ds.length = acc.length ∧ ∀ d ∈ ds, isBool d = true
  | [], _ => ⟨[], fun _ _ _ => .nil, rfl, fun d z => absurd z List.not_mem_nil⟩
  | v :: acc, h => by
    obtain ⟨ds, h1, h2, h3⟩ := gb_dt (acc := acc) fun u hu => h u (List.mem_cons_of_mem _ hu)
    obtain ⟨b, e⟩ := h v List.mem_cons_self
    subst e
    refine ⟨.bool b :: ds, fun B K H => .cons (.bl b) (h1 B K H), by rw [List.length_cons, List.length_cons, h2], fun d hd => ?_⟩
    rcases List.mem_cons.mp hd with hd | hd
    · rw [hd]
      rfl
    · exact h3 d hd
def RowD (L m : Int) (d : PyData) : Prop := ∃ is : List PyData, d = .tuple is ∧ (is.length : Int) = L ∧ ∀ i ∈ is, Ri m i
def B3 (a c R : Addr) : Addr → Prop := fun b => Bd a c b ∨ b = R
mutual
theorem Dt.weak {B B' : Addr → Prop} {K : PySem.W.Frag} {H : Hp} (k : ∀ b, B' b → B b) : ∀ (d : PyData) (v : V), Dt B K H v d → Dt B' K H v d
  | .none, _, h => by cases h; exact .non
  | .bool _, _, h => by cases h; exact .bl _
  | .int _, _, h => by cases h; exact .int _
  | .str _, _, h => by cases h; exact .str _
  | .list ds, _, h => by
    cases h with
    | lst nb ne hs ha => exact .lst (fun z => nb (k _ z)) ne hs (DtAll.weak k ds _ ha)
  | .tuple ds, _, h => by
    cases h with
    | tup nb hs ha => exact .tup (fun z => nb (k _ z)) hs (DtAll.weak k ds _ ha)
  | .dict _, _, h => by
    cases h with
    | emp nb e => exact .emp (fun z => nb (k _ z)) e
theorem DtAll.weak {B B' : Addr → Prop} {K : PySem.W.Frag} {H : Hp} (k : ∀ b, B' b → B b) : ∀ (ds : List PyData) (vs : List V), DtAll B K H vs ds → DtAll B' K H vs ds
  | [], _, h => by cases h; exact .nil
  | d :: ds, _, h => by
    cases h with
    | cons h1 h2 => exact .cons (Dt.weak k d _ h1) (DtAll.weak k ds _ h2)
end
theorem Keep.wide {B B' : Addr → Prop} {H H' : Hp} (k : ∀ b, B b → B' b) (h : Keep B H H') : Keep B' H H' := fun b o n e => h b o (fun z => n (k b z)) e
/-- the rows that are made so far -/
def MInv (K : PySem.W.Frag) (a c R : Addr) (H : Hp) (L m n0 : Int) (i : Nat) (H' : Hp) : Prop :=
  ∃ (cells : List Int) (n' : Int) (rvs : List V) (rds : List PyData), DeckAt a c cells n' H' ∧ n0 ≤ n' ∧ n' ≤ n0 + 6 * i ∧ Keep (Bd a c) H H' ∧ H' R = some (.lst rvs) ∧ DtAll (B3 a c R) K H' rvs rds ∧ rds.length = i ∧ ∀ r ∈ rds, RowD L m r
theorem mstep {K : PySem.W.Frag} {a c R q : Addr} {H H1 H2 : Hp} {L m n0 n1 n2 : Int} {i : Nat} {rvs acc : List V} {rds : List PyData} {cells2 : List Int} (hR0 : H R = none) (nR : ¬ Bd a c R) (hi : i ≤ 1000) (h0 : n0 ≤ n1) (h1 : n1 ≤ n0 + 6 * i) (kp : Keep (Bd a c) H H1) (hR : H1 R = some (.lst rvs)) (hd : DtAll (B3 a c R) K H1 rvs rds)
    (hl : rds.length = i) (hr : ∀ r ∈ rds, RowD L m r) (k2 : Keep (Bd a c) H1 H2) (dk : DeckAt a c cells2 n2 H2) (h2 : n1 ≤ n2) (h3 : n2 ≤ n1 + 6) (hG : ∀ v ∈ acc, Gi m v) (hL : (acc.length : Int) = L) (hq : H2 q = none) :
    ∃ rvs', (upd H2 q (.tup acc)) R = some (.lst rvs') ∧ rvs'.length < sizeLine ∧ MInv K a c R H L m n0 (i + 1) (upd (upd H2 q (.tup acc)) R (.lst (rvs' ++ [.ref q]))) := by
  have hR2 := k2 _ _ nR hR
  have nq : R ≠ q := ne_of_none hR2 hq
  have k3 : Keep (B3 a c R) H1 (upd (upd H2 q (.tup acc)) R (.lst (rvs ++ [.ref q]))) := fun b o nb z => by
    rw [upd_ne (fun z : b = R => nb (.inr z)), upd_ne (ne_of_none (k2 _ _ (fun z => nb (.inl z)) z) hq)]
    exact k2 _ _ (fun z => nb (.inl z)) z
  obtain ⟨ds, g1, g2, g3⟩ := gi_dt hG
  have hlv := hd.len
  refine ⟨rvs, by rw [upd_ne nq]; exact hR2, small1000 (by omega), cells2, n2, rvs ++ [.ref q], rds ++ [.tuple ds], deck_upd (deck_new dk hq) nR, by omega, by omega, fun b o nb z => ?_, upd_same, ?_, ?_, ?_⟩
  · rw [upd_ne (ne_of_none z hR0), upd_ne (ne_of_none (k2 _ _ nb (kp _ _ nb z)) hq)]
    exact k2 _ _ nb (kp _ _ nb z)
  · refine (DtAll.keep k3 _ _ hd).append (.cons (.tup (xs := acc) ?_ (.inl ?_) (g1 _ _ _)) .nil)
    · rintro (z | z)
      · exact deck_off dk hq z
      · exact nq z.symm
    · rw [upd_ne nq.symm, upd_same]
  · rw [List.length_append, hl]
    rfl
  · intro r hr2
    rcases List.mem_append.mp hr2 with hr2 | hr2
    · exact hr r hr2
    · rw [List.mem_singleton.mp hr2]
      exact ⟨ds, rfl, by rw [g2]; exact hL, g3⟩
def rTup (K : PySem.W.Frag) : List V → Hp → VK → Prop := fun xs H Q => ∃ p ys, xs = [.ref p] ∧ ((SqL K H p ys ∧ ∀ l, H l = none → Q (.ref l) (upd H l (.tup ys))) ∨ (SqT K H p ys ∧ Q (.ref p) H))
section
variable {P : Program} {w : World} {K : PySem.W.Frag} {mg : Str → Option Value} {base : Heap}
theorem scMach : FnScope ["_law_deck_here", "_law_letters", "_law_most", "_law_many", "_law_way", "_law_rows", "_law_state", "_law_at", "_law_further", "_law_items", "_law_item", "_law_often"] ["_law_deck_here", "_law_letters", "_law_most"] (defScope sMach) := ⟨rfl, rfl, rfl, by decide +kernel, rfl, by decide +kernel, by decide +kernel⟩
def MachD (K : PySem.W.Frag) (a c : Addr) (H : Hp) (v : V) (L M : Int) (rs es : List PyData) : Prop :=
  Dt (Bd a c) K H v (.tuple [.int L, .tuple rs, .tuple es]) ∧ 1 ≤ rs.length ∧ (rs.length : Int) ≤ M ∧ es.length = rs.length ∧ (∀ r ∈ rs, RowD L rs.length r) ∧ ∀ e ∈ es, isBool e = true
def spMach (K : PySem.W.Frag) : Sp := fun vs H Q _ => ∃ (a c : Addr) (cells : List Int) (n L M : Int), vs = [.ref a, .int L, .int M] ∧ DeckAt a c cells n H ∧ 0 ≤ n ∧ n ≤ 900000 ∧ 1 ≤ L ∧ L ≤ 3 ∧ 1 ≤ M ∧ M ≤ 10 ∧
  ∀ (H' : Hp) (cells' : List Int) (n' : Int) (v : V) (rs es : List PyData), DeckAt a c cells' n' H' → n ≤ n' → n' ≤ n + 100 → Keep (Bd a c) H H' → MachD K a c H' v L M rs es → Q v H'
theorem ok_mach {f fD fO : Addr} {fd fdD fdO : FuncData} (F : Fun K "_law_machine" "_law_machine" sMach f fd) (D : FnOk P w K mg base CX0 1 fD fdD ["_law_deck_here", "_law_many"] spDraw) (FD : Fun K "_law_draw" "_law_draw" sDraw fD fdD) (bD : Binds K fdD ["_law_deck_here", "_law_many"] []) (gD : mg "_law_draw" = some (.ref fD))
    (O : FnOk P w K mg base CX0 2 fO fdO ["_law_deck_here", "_law_items"] (spOne K)) (FO : Fun K "_law_one" "_law_one" sOne fO fdO) (bO : Binds K fdO ["_law_deck_here", "_law_items"] []) (gO : mg "_law_one" = some (.ref fO)) (T : Mg mg) :
    FnOk P w K mg base CX0 3 f fd ["_law_deck_here", "_law_letters", "_law_most"] (spMach K) := by
  refine F.ok scMach (fun vs H Q E h => ?_) (fun cdv A outer s H vs Q E hr h => ?_)
  · obtain ⟨a, c, cells, n, L, M, rfl, _⟩ := h
    rfl
  · obtain ⟨a, c, cells, n, L, M, rfl, dk, n0, n1, l1, l3, m1, m10, k⟩ := h
    refine ⟨_, pss_cons (ps_asg (pe_tup (pa_cons (pe_op op_add pe_int (pe_call D (hr.mono (by decide)) (by rfl) gD FD.kp bD .nil pass0 (pa_cons (pv 0) (pa_cons (pv 2) pa_nil)))) (pa_cons (pe_call D (hr.mono (by decide)) (by rfl) gD FD.kp bD .nil pass0 (pa_cons (pv 0) (pa_cons pe_int pa_nil))) (pa_cons (pe_lst pa_nil) pa_nil)))) (pg_tup rfl (pgs_cons (pg_name (i := 3) scMach.nd rfl (.inr rfl)) (pgs_cons (pg_name (i := 4) scMach.nd rfl (.inr rfl)) (pgs_cons (pg_name (i := 5) scMach.nd rfl (.inl rfl)) pgs_nil)))))
      (pss_cons (ps_for PassesOwn.never rfl (pi_range1 (by rfl) T.range (pa_cons (pv 3) pa_nil)) (pg_name (i := 6) scMach.nd rfl (.inr rfl))
        (pss_one (ps_if (pt_cmpR op_eq (pv 4) pe_int (nomark _)) (pss_one (ps_expr (pe_bm PySem.F.plainAttrs_list PySem.F.slot_list_append PySem.F.type_list_append mt_append (pv 5) (pa_cons (pe_callTy (r := rTup K) call_tuple_of (by rfl) T.tuple PyProof.Rows.boot_tuple (pa_cons (pe_lc (own := [("_law_at", 7)]) (g := gName 7) (tt := tYes) rfl scMach.nd (pi_range1 (by rfl) T.range (pa_cons (pv 1) pa_nil)) (blkOk_by (N := ["_law_deck_here", "_law_letters", "_law_most", "_law_many", "_law_way", "_law_rows", "_law_state", "_law_at", "_law_further", "_law_items", "_law_item", "_law_often"]) (sc := defScope sMach) (by decide +kernel)) (fun _ _ _ _ _ => pg_name (i := 7) scMach.nd rfl (Or.inl rfl)) (fun _ _ _ _ _ => pts_nil) (fun _ _ _ _ _ => pe_op op_mod (pe_callTy call_int1 (by rfl) T.int PyProof.Rows.boot_int (pa_cons (pe_op op_add (pv 6) pe_int) pa_nil)) (pv 3))) pa_nil)) pa_nil))))
          (pss_one (ps_if (pt_cmpR op_eq (pv 4) pe_int (nomark _))
            (pss_cons (ps_set (i := 8) scMach.nd rfl (.inr rfl) (pe_lst (pa_cons (pe_ifExp (pt_cmpR op_lt (pe_op op_add (pv 6) pe_int) (pv 3) (nomark _)) (pe_op op_add (pv 6) pe_int) pe_non) (pa_cons (pv 6) (pa_cons pe_non pa_nil)))))
              (pss_one (ps_expr (pe_bm PySem.F.plainAttrs_list PySem.F.slot_list_append PySem.F.type_list_append mt_append (pv 5) (pa_cons (pe_callTy (r := rTup K) call_tuple_of (by rfl) T.tuple PyProof.Rows.boot_tuple (pa_cons (pe_lc (own := [("_law_at", 7)]) (g := gName 7) (tt := tYes) rfl scMach.nd (pi_range1 (by rfl) T.range (pa_cons (pv 1) pa_nil)) (blkOk_by (N := ["_law_deck_here", "_law_letters", "_law_most", "_law_many", "_law_way", "_law_rows", "_law_state", "_law_at", "_law_further", "_law_items", "_law_item", "_law_often"]) (sc := defScope sMach) (by decide +kernel)) (fun _ _ _ _ _ => pg_name (i := 7) scMach.nd rfl (Or.inl rfl)) (fun _ _ _ _ _ => pts_nil) (fun _ _ _ _ _ => (pe_call O hr (by rfl) gO FO.kp bO .nil pass0 (pa_cons (pv 0) (pa_cons (pv 8) pa_nil))))) pa_nil)) pa_nil)))))
            (pss_cons (ps_setLc (i := 9) (own := [("_law_at", 7)]) (g := gName 7) (tt := tYes) rfl scMach.nd rfl rfl (sw_true rfl rfl rfl (by decide +kernel)) (pi_range1 (by rfl) T.range (pa_cons (pv 1) pa_nil)) (blkOk_by (N := ["_law_deck_here", "_law_letters", "_law_most", "_law_many", "_law_way", "_law_rows", "_law_state", "_law_at", "_law_further", "_law_items", "_law_item", "_law_often"]) (sc := defScope sMach) (by decide +kernel)) (fun _ _ _ _ _ => pg_name (i := 7) scMach.nd rfl (Or.inl rfl)) (fun _ _ _ _ _ => pts_nil) (fun _ _ _ _ _ => (pe_call D (hr.mono (by decide)) (by rfl) gD FD.kp bD .nil pass0 (pa_cons (pv 0) (pa_cons (pv 3) pa_nil)))))
              (pss_one (ps_expr (pe_bm PySem.F.plainAttrs_list PySem.F.slot_list_append PySem.F.type_list_append mt_append (pv 5) (pa_cons (pe_callTy (r := rTup K) call_tuple_of (by rfl) T.tuple PyProof.Rows.boot_tuple (pa_cons (pe_lc (own := [("_law_item", 10)]) (g := gName 10) (tt := tYes) rfl scMach.nd (pi_list (pv 9)) (blkOk_by (N := ["_law_deck_here", "_law_letters", "_law_most", "_law_many", "_law_way", "_law_rows", "_law_state", "_law_at", "_law_further", "_law_items", "_law_item", "_law_often"]) (sc := defScope sMach) (by decide +kernel)) (fun _ _ _ _ _ => pg_name (i := 10) scMach.nd rfl (Or.inl rfl)) (fun _ _ _ _ _ => pts_nil) (fun _ _ _ _ _ => pe_ifExp (pt_cmpR op_eq (pe_call D (hr.mono (by decide)) (by rfl) gD FD.kp bD .nil pass0 (pa_cons (pv 0) (pa_cons (pe_op op_add pe_int (pv 4)) pa_nil))) pe_int (nomark _)) pe_non (pv 10))) pa_nil)) pa_nil))))))))))
      (pss_cons (ps_set (i := 11) scMach.nd rfl (.inr rfl) (pe_call O hr (by rfl) gO FO.kp bO .nil pass0 (pa_cons (pv 0) (pa_cons (pe_lst (pa_cons pe_int (pa_cons pe_int (pa_cons pe_int (pa_cons pe_int pa_nil))))) pa_nil))))
      (pss_one (ps_ret (pe_tup (pa_cons (pv 1) (pa_cons (pe_callTy (r := rTup K) call_tuple_of (by rfl) T.tuple PyProof.Rows.boot_tuple (pa_cons (pv 5) pa_nil)) (pa_cons (pe_callTy (r := rTup K) call_tuple_of (by rfl) T.tuple PyProof.Rows.boot_tuple (pa_cons (pe_lc (own := [("_law_state", 6)]) (g := gName 6) (tt := tYes) rfl scMach.nd (pi_range1 (by rfl) T.range (pa_cons (pv 3) pa_nil)) (blkOk_by (N := ["_law_deck_here", "_law_letters", "_law_most", "_law_many", "_law_way", "_law_rows", "_law_state", "_law_at", "_law_further", "_law_items", "_law_item", "_law_often"]) (sc := defScope sMach) (by decide +kernel)) (fun _ _ _ _ _ => pg_name (i := 6) scMach.nd rfl (Or.inl rfl)) (fun _ _ _ _ _ => pts_nil) (fun _ _ _ _ _ => pe_cmpR op_eq (pe_call D (hr.mono (by decide)) (by rfl) gD FD.kp bD .nil pass0 (pa_cons (pv 0) (pa_cons (pv 11) pa_nil))) pe_int (nomark _))) pa_nil)) pa_nil)))))))), ?_⟩
    refine ⟨_, rfl, _, rfl, a, c, cells, n, M, rfl, dk, m1, by omega, n0, by omega, fun H1 cells1 r1 r0 rM dk1 k1 => ?_⟩
    refine ⟨1, r1, rfl, rfl, _, rfl, a, c, cells1, n + 1, 5, rfl, dk1, by decide, by decide, by omega, by omega, fun H2 cells2 r2 r20 r25 dk2 k2 => ?_⟩
    refine ⟨Nat.zero_le _, fun R hR => ?_⟩
    have nR := deck_off dk2 hR
    have k12 := k1.trans k2
    have dk3 := deck_new (o := .lst []) dk2 hR
    have k3 := k12.trans (keep_new (B := Bd a c) (o := .lst []) hR)
    have hR3 : upd H2 R (.lst []) R = some (.lst []) := upd_same
    refine ⟨(by show 3 ≤ sizeLine; decide), fun T3 hT => ?_⟩
    have dk4 := deck_new (o := .tup [.int (1 + r1), .int r2, .ref R]) dk3 hT
    have k4 := k3.trans (keep_new (B := Bd a c) (o := .tup [.int (1 + r1), .int r2, .ref R]) hT)
    have hR4 : upd (upd H2 R (.lst [])) T3 (.tup [.int (1 + r1), .int r2, .ref R]) R = some (.lst []) := by
      rw [upd_ne (ne_of_none hR3 hT)]
      exact hR3
    have hT4 : upd (upd H2 R (.lst [])) T3 (.tup [.int (1 + r1), .int r2, .ref R]) T3 = some (.tup [.int (1 + r1), .int r2, .ref R]) := upd_same
    have hR0 : H R = none := by
      cases z : H R with
      | none => rfl
      | some o =>
        rw [k12 _ _ nR z] at hR
        cases hR
    refine ⟨T3, _, rfl, SqT.of hT4, rfl, _, _, rfl, _, _, rfl, _, _, rfl, rfl, ?_⟩
    obtain ⟨m, em⟩ : ∃ m, m = 1 + r1 := ⟨_, rfl⟩
    have hm1 : 1 ≤ m := by omega
    have hmM : m ≤ M := by omega
    have lo62 : ∀ z : Int, 0 ≤ z → z ≤ 10 → -(2 ^ 62) ≤ z ∧ z < 2 ^ 62 := fun z z0 z1 => ⟨by omega, by omega⟩
    refine ⟨_, rfl, m, by rw [em], (lo62 m (by omega) (by omega)).1, (lo62 m (by omega) (by omega)).2, ?_⟩
    refine for_range (lo := 0) (n := m.toNat) (fun i σ H' => (∃ y6 y8 y9, σ = [some (.ref a), some (.int L), some (.int M), some (.int m), some (.int r2), some (.ref R), y6, none, y8, y9, none, none]) ∧ MInv K a c R H L m (n + 2) i H')
      ⟨⟨none, none, none, by rw [em]; rfl⟩, cells2, n + 1 + 1, [], [], dk4, by omega, by omega, k4, hR4, .nil, rfl, fun r z => absurd z List.not_mem_nil⟩ ?_ ?_
    · rintro i σ H5 hi ⟨⟨y6, y8, y9, rfl⟩, cells5, n5, rvs, rds, dk5, hn5, hn5', k5, hR5, hd5, hl5, hr5⟩
      have hi10 : i < 10 := by omega
      -- what each of the three ways has at its end
      have stp : ∀ (y8' y9' : Option V) (H6 : Hp) (cells6 : List Int) (n6 : Int) (acc : List V) (q : Addr), Keep (Bd a c) H5 H6 → DeckAt a c cells6 n6 H6 → n5 ≤ n6 → n6 ≤ n5 + 6 → (∀ v ∈ acc, Gi m v) → (acc.length : Int) = L → H6 q = none →
          ∃ rvs', (upd H6 q (.tup acc)) R = some (.lst rvs') ∧ rvs'.length < sizeLine ∧ ((∃ y6 y8 y9, [some (V.ref a), some (.int L), some (.int M), some (.int m), some (.int r2), some (.ref R), some (.int (0 + i)), none, y8', y9', none, none] = [some (V.ref a), some (.int L), some (.int M), some (.int m), some (.int r2), some (.ref R), y6, none, y8, y9, none, none]) ∧ MInv K a c R H L m (n + 2) (i + 1) (upd (upd H6 q (.tup acc)) R (.lst (rvs' ++ [.ref q])))) := by
        intro y8' y9' H6 cells6 n6 acc q k6 dk6 h1 h2 hG hL hq
        obtain ⟨rvs', e1, e2, e3⟩ := mstep hR0 nR (by omega) hn5 hn5' k5 hR5 hd5 hl5 hr5 k6 dk6 h1 h2 hG hL hq
        exact ⟨rvs', e1, e2, ⟨_, _, _, rfl⟩, e3⟩
      refine ⟨_, rfl, rfl, _, rfl, ite2 (fun hw0 => ?_) (fun hw0 => ?_)⟩
      · -- a ring
        refine ⟨.ref R, rfl, .inl ⟨rfl, _, SqL.of hR5⟩, ?_⟩
        refine ⟨_, rfl, L, rfl, (lo62 L (by omega) (by omega)).1, (lo62 L (by omega) (by omega)).2, fun D hD => ?_⟩
        have nD := deck_off dk5 hD
        refine lc_range (lo := 0) (n := L.toNat) (CInv a c D H5 (Gi m) n5 0) (cstart dk5 hD) ?_ ?_
        · rintro j H6 hj ⟨cells6, n6, acc, dk6, h1, h2, k6, hD6, hl6, hG6⟩
          refine ⟨rfl, _, rfl, _, 1, rfl, rfl, .inl ⟨_, rfl, _, rfl, _, m, rfl, rfl, by omega, ?_⟩⟩
          exact cstep hD nD (by omega) h1 h2 k6 hD6 hl6 hG6 dk6 (Int.le_refl _) (by omega) Keep.rfl' (.inr ⟨_, rfl, Int.emod_nonneg _ (by omega), Int.emod_lt_of_pos _ (by omega)⟩)
        · rintro H6 ⟨cells6, n6, acc, dk6, h1, h2, k6, hD6, hl6, hG6⟩
          refine ⟨D, acc, rfl, .inl ⟨SqL.of hD6, fun q hq => ?_⟩⟩
          obtain ⟨rvs', e1, e2, e3⟩ := stp y8 y9 H6 cells6 n6 acc q k6 dk6 h1 (by omega) hG6 (by rw [hl6]; omega) hq
          exact ⟨R, _, _, rfl, rfl, e1, e2, e3⟩
      · refine ⟨_, rfl, rfl, _, rfl, ite2 (fun hw1 => ?_) (fun hw1 => ?_)⟩
        · -- a row of states
          refine ⟨_, rfl, _, 1, rfl, rfl, _, rfl, _, m, rfl, rfl, _, rfl, ite2 (fun hlt => ?_) (fun hlt => ?_)⟩
          · have hlt := of_decide_eq_true hlt
            refine ⟨_, rfl, _, 1, rfl, rfl, _, rfl, (by show 3 ≤ sizeLine; decide), fun Fu hFu => ?_⟩
            have g0 : Gi m (.int (0 + i + 1)) := .inr ⟨_, rfl, by omega, by omega⟩
            have g1 : Gi m (.int (0 + i)) := .inr ⟨_, rfl, by omega, by omega⟩
            have dkF := deck_new (o := .lst [V.int (0 + i + 1), .int (0 + i), .non]) dk5 hFu
            have nF := deck_off dk5 hFu
            have kF : Keep (Bd a c) H5 (upd H5 Fu (.lst [V.int (0 + i + 1), .int (0 + i), .non])) := keep_new hFu
            have hRF := kF _ _ nR hR5
            have hFF : upd H5 Fu (.lst [V.int (0 + i + 1), .int (0 + i), .non]) Fu = some (.lst [V.int (0 + i + 1), .int (0 + i), .non]) := upd_same
            have gF : ∀ x ∈ [V.int (0 + i + 1), V.int (0 + i), V.non], Gi m x := fun x hx => by
              rcases List.mem_cons.mp hx with hx | hx
              · rw [hx]
                exact g0
              · rcases List.mem_cons.mp hx with hx | hx
                · rw [hx]
                  exact g1
                · rw [List.mem_singleton.mp hx]
                  exact .inl rfl
            refine ⟨.ref R, rfl, .inl ⟨rfl, _, SqL.of hRF⟩, ?_⟩
            refine ⟨_, rfl, L, rfl, (lo62 L (by omega) (by omega)).1, (lo62 L (by omega) (by omega)).2, fun D hD => ?_⟩
            have nD := deck_off dkF hD
            refine lc_range (lo := 0) (n := L.toNat) (CInv a c D (upd H5 Fu (.lst [V.int (0 + i + 1), .int (0 + i), .non])) (Gi m) n5 1) (cstart dkF hD) ?_ ?_
            · rintro j H6 hj ⟨cells6, n6, acc, dk6, h1, h2, k6, hD6, hl6, hG6⟩
              refine ⟨rfl, _, rfl, _, rfl, a, c, Fu, cells6, n6, _, rfl, dk6, by omega, by omega, SqL.of (k6 _ _ nF hFF), nF, List.cons_ne_nil _ _, (by show 3 ≤ 1000; decide), fun H7 cells7 x hx dk7 k7 => ?_⟩
              exact cstep hD nD (by omega) h1 h2 k6 hD6 hl6 hG6 dk7 (by omega) (by omega) k7 (gF x hx)
            · rintro H6 ⟨cells6, n6, acc, dk6, h1, h2, k6, hD6, hl6, hG6⟩
              refine ⟨D, acc, rfl, .inl ⟨SqL.of hD6, fun q hq => ?_⟩⟩
              obtain ⟨rvs', e1, e2, e3⟩ := stp (some (.ref Fu)) y9 H6 cells6 n6 acc q (kF.trans k6) dk6 h1 (by omega) hG6 (by rw [hl6]; omega) hq
              exact ⟨R, _, _, rfl, rfl, e1, e2, e3⟩
          · refine ⟨_, rfl, (by show 3 ≤ sizeLine; decide), fun Fu hFu => ?_⟩
            have g0 : Gi m .non := .inl rfl
            have g1 : Gi m (.int (0 + i)) := .inr ⟨_, rfl, by omega, by omega⟩
            have dkF := deck_new (o := .lst [V.non, .int (0 + i), .non]) dk5 hFu
            have nF := deck_off dk5 hFu
            have kF : Keep (Bd a c) H5 (upd H5 Fu (.lst [V.non, .int (0 + i), .non])) := keep_new hFu
            have hRF := kF _ _ nR hR5
            have hFF : upd H5 Fu (.lst [V.non, .int (0 + i), .non]) Fu = some (.lst [V.non, .int (0 + i), .non]) := upd_same
            have gF : ∀ x ∈ [V.non, V.int (0 + i), V.non], Gi m x := fun x hx => by
              rcases List.mem_cons.mp hx with hx | hx
              · rw [hx]
                exact g0
              · rcases List.mem_cons.mp hx with hx | hx
                · rw [hx]
                  exact g1
                · rw [List.mem_singleton.mp hx]
                  exact .inl rfl
            refine ⟨.ref R, rfl, .inl ⟨rfl, _, SqL.of hRF⟩, ?_⟩
            refine ⟨_, rfl, L, rfl, (lo62 L (by omega) (by omega)).1, (lo62 L (by omega) (by omega)).2, fun D hD => ?_⟩
            have nD := deck_off dkF hD
            refine lc_range (lo := 0) (n := L.toNat) (CInv a c D (upd H5 Fu (.lst [V.non, .int (0 + i), .non])) (Gi m) n5 1) (cstart dkF hD) ?_ ?_
            · rintro j H6 hj ⟨cells6, n6, acc, dk6, h1, h2, k6, hD6, hl6, hG6⟩
              refine ⟨rfl, _, rfl, _, rfl, a, c, Fu, cells6, n6, _, rfl, dk6, by omega, by omega, SqL.of (k6 _ _ nF hFF), nF, List.cons_ne_nil _ _, (by show 3 ≤ 1000; decide), fun H7 cells7 x hx dk7 k7 => ?_⟩
              exact cstep hD nD (by omega) h1 h2 k6 hD6 hl6 hG6 dk7 (by omega) (by omega) k7 (gF x hx)
            · rintro H6 ⟨cells6, n6, acc, dk6, h1, h2, k6, hD6, hl6, hG6⟩
              refine ⟨D, acc, rfl, .inl ⟨SqL.of hD6, fun q hq => ?_⟩⟩
              obtain ⟨rvs', e1, e2, e3⟩ := stp (some (.ref Fu)) y9 H6 cells6 n6 acc q (kF.trans k6) dk6 h1 (by omega) hG6 (by rw [hl6]; omega) hq
              exact ⟨R, _, _, rfl, rfl, e1, e2, e3⟩
        · -- drawn items
          refine ⟨_, rfl, L, rfl, (lo62 L (by omega) (by omega)).1, (lo62 L (by omega) (by omega)).2, fun D hD => ?_⟩
          have nD := deck_off dk5 hD
          refine lc_range (lo := 0) (n := L.toNat) (CInv a c D H5 (Gi m) n5 1) (cstart dk5 hD) ?_ ?_
          · rintro j H6 hj ⟨cells6, n6, acc, dk6, h1, h2, k6, hD6, hl6, hG6⟩
            refine ⟨rfl, _, rfl, _, rfl, a, c, cells6, n6, m, rfl, dk6, hm1, by omega, by omega, by omega, fun H7 cells7 r r0 rm dk7 k7 => ?_⟩
            exact cstep hD nD (by omega) h1 h2 k6 hD6 hl6 hG6 dk7 (by omega) (by omega) k7 (.inr ⟨r, rfl, r0, rm⟩)
          · rintro H6 ⟨cells6, n6, acc, dk6, h1, h2, k6, hD6, hl6, hG6⟩
            have hR6 := k6 _ _ nR hR5
            refine ⟨.ref R, rfl, .inl ⟨rfl, _, SqL.of hR6⟩, ?_⟩
            refine ⟨_, rfl, D, rfl, ⟨_, SqL.of hD6⟩, fun D2 hD2 => ?_⟩
            have nD2 := deck_off dk6 hD2
            refine lc_list (K := K) (a := D) (xs := acc) (CInv a c D2 H6 (Gi m) n6 1) (cstart dk6 hD2) (fun j H7 _ p => ?_) ?_ ?_
            · obtain ⟨_, _, _, _, _, _, k7, _⟩ := p
              exact SqL.of (k7 _ _ nD hD6)
            · rintro j y H7 hy ⟨cells7, n7, acc7, dk7, h3, h4, k7, hD7, hl7, hG7⟩
              have hj := (List.getElem?_eq_some_iff.mp hy).1
              refine ⟨rfl, _, rfl, _, rfl, 3, r2, rfl, rfl, a, c, cells7, n7, 3 + r2, rfl, dk7, by omega, by omega, by omega, by omega, fun H8 cells8 r r0 rm dk8 k8 => ?_⟩
              refine ⟨rfl, _, rfl, ite2 (fun _ => ?_) (fun _ => ?_)⟩
              · exact cstep hD2 nD2 (by omega) h3 h4 k7 hD7 hl7 hG7 dk8 (by omega) (by omega) k8 (.inl rfl)
              · exact ⟨y, rfl, cstep hD2 nD2 (by omega) h3 h4 k7 hD7 hl7 hG7 dk8 (by omega) (by omega) k8 (hG6 y (List.mem_of_getElem? hy))⟩
            · rintro H7 ⟨cells7, n7, acc7, dk7, h3, h4, k7, hD7, hl7, hG7⟩
              refine ⟨D2, acc7, rfl, .inl ⟨SqL.of hD7, fun q hq => ?_⟩⟩
              obtain ⟨rvs', e1, e2, e3⟩ := stp y8 (some (.ref D)) H7 cells7 n7 acc7 q (k6.trans k7) dk7 (by omega) (by omega) hG7 (by rw [hl7, hl6]; omega) hq
              exact ⟨R, _, _, rfl, rfl, e1, e2, e3⟩
    · rintro σ H5 ⟨⟨y6, y8, y9, rfl⟩, cells5, n5, rvs, rds, dk5, hn5, hn5', k5, hR5, hd5, hl5, hr5⟩
      have hml : (rds.length : Int) = m := by omega
      refine ⟨_, rfl, (by show 4 ≤ sizeLine; decide), fun O4 hO4 => ?_⟩
      have dkO := deck_new (o := .lst [.int 2, .int 2, .int 3, .int 5]) dk5 hO4
      have kO : Keep (Bd a c) H5 (upd H5 O4 (.lst [.int 2, .int 2, .int 3, .int 5])) := keep_new hO4
      refine ⟨a, c, O4, cells5, n5, _, rfl, dkO, by omega, by omega, SqL.of upd_same, deck_off dk5 hO4, List.cons_ne_nil _ _, (by show 4 ≤ 1000; decide), fun H6 cells6 x hx dk6 k6 => ?_⟩
      obtain ⟨o, rfl, ho1, ho5⟩ : ∃ o : Int, x = .int o ∧ 1 ≤ o ∧ o ≤ 5 := by
        simp only [List.mem_cons, List.not_mem_nil, or_false] at hx
        rcases hx with hx | hx | hx | hx <;> exact ⟨_, hx, by decide, by decide⟩
      have k56 := kO.trans k6
      have hR6 := k56 _ _ nR hR5
      refine ⟨_, rfl, _, rfl, R, rvs, rfl, .inl ⟨SqL.of hR6, fun pr hpr => ?_⟩⟩
      have dk7 := deck_new (o := .tup rvs) dk6 hpr
      have k67 : Keep (Bd a c) H6 (upd H6 pr (.tup rvs)) := keep_new hpr
      have hpr7 : upd H6 pr (.tup rvs) pr = some (.tup rvs) := upd_same
      refine ⟨_, rfl, m, rfl, (lo62 m (by omega) (by omega)).1, (lo62 m (by omega) (by omega)).2, fun D hD => ?_⟩
      have nD := deck_off dk7 hD
      refine lc_range (lo := 0) (n := m.toNat) (CInv a c D (upd H6 pr (.tup rvs)) Gb (n5 + 1) 1) (cstart dk7 hD) ?_ ?_
      · rintro j H8 hj ⟨cells8, n8, acc8, dk8, h1, h2, k8, hD8, hl8, hG8⟩
        refine ⟨rfl, _, rfl, _, rfl, a, c, cells8, n8, o, rfl, dk8, ho1, by omega, by omega, by omega, fun H9 cells9 r r0 rm dk9 k9 => ⟨rfl, ?_⟩⟩
        exact cstep hD nD (by omega) h1 h2 k8 hD8 hl8 hG8 dk9 (by omega) (by omega) k9 ⟨_, rfl⟩
      · rintro H8 ⟨cells8, n8, acc8, dk8, h1, h2, k8, hD8, hl8, hG8⟩
        refine ⟨D, acc8, rfl, .inl ⟨SqL.of hD8, fun pe hpe => ?_⟩⟩
        refine ⟨(by show 3 ≤ sizeLine; decide), fun p hp => ?_⟩
        obtain ⟨eds, ge1, ge2, ge3⟩ := gb_dt hG8
        have dk9 := deck_new (o := .tup acc8) dk8 hpe
        have k89 : Keep (Bd a c) H8 (upd H8 pe (.tup acc8)) := keep_new hpe
        have hpe9 : upd H8 pe (.tup acc8) pe = some (.tup acc8) := upd_same
        have dk10 := deck_new (o := .tup [.int L, .ref pr, .ref pe]) dk9 hp
        have k910 : Keep (Bd a c) (upd H8 pe (.tup acc8)) (upd (upd H8 pe (.tup acc8)) p (.tup [.int L, .ref pr, .ref pe])) := keep_new hp
        have hp10 : upd (upd H8 pe (.tup acc8)) p (.tup [.int L, .ref pr, .ref pe]) p = some (.tup [.int L, .ref pr, .ref pe]) := upd_same
        have k710 := k8.trans (k89.trans k910)
        have k510 := k56.trans (k67.trans k710)
        have npr := deck_off dk6 hpr
        have npe := deck_off dk8 hpe
        refine k _ cells8 n8 _ rds eds dk10 (by omega) (by omega) (k5.trans k510) ⟨.tup (deck_off dk9 hp) (.inl hp10) (.cons (.int L) (.cons (.tup npr (.inl (k710 _ _ npr hpr7)) ?_) (.cons (.tup npe (.inl (k910 _ _ npe hpe9)) (ge1 _ _ _)) .nil))), by omega, by omega, by omega, fun r hr2 => ?_, ge3⟩
        · exact DtAll.keep k510 _ _ (DtAll.weak (fun b hb => .inl hb) _ _ hd5)
        · rw [hml]
          exact hr5 r hr2
end
section
variable {X : Cx}
/-- []: new, and no table of modules -/
def tNilN : TE := fun _ H Q => ∀ p, H p = none → p ≠ sysModules → Q (.ref p) (upd H p (.lst []))
theorem pe_nilN {pos : Pos} : PE X (.List [] pos) tNilN := by
  refine ⟨fun pins s σ H Q I h => ?_⟩
  refine wpAny_List_spliced (thn (pa_nil.run pos pins s σ H (fun xs H1 => xs = [] ∧ H1 = H) I ⟨rfl, rfl⟩) ?_)
  rintro us s1 ⟨xs, H1, I1, r, rfl, rfl⟩
  cases r
  exact ⟨Nat.zero_le _, .ref s1.heap.objs.size, _, I1.laid (o := .lst []) (t' := s1.toks) (fun b u e => Heap.get?_push_of_some _ e) (Nat.le_refl _) ⟨Nat.zero_le _, [], 0, .nil, Heap.get?_push_size _ rfl⟩, rfl, h _ (I1.hok.fresh (Nat.le_refl _)) (Nat.ne_of_gt I1.big)⟩
/-- list(t): new, and no table of modules -/
def rListN (K : PySem.W.Frag) : List V → Hp → VK → Prop := fun xs H Q => ∃ p ys, xs = [.ref p] ∧ SqT K H p ys ∧ ∀ l, H l = none → l ≠ sysModules → Q (.ref l) (upd H l (.lst ys))
theorem call_listN : CallR X (.type "list") (rListN X.K) := by
  intro pins s σ H xs us Q I r h
  obtain ⟨p, ys, rfl, hq, q⟩ := h
  obtain ⟨u, rfl, rx⟩ := vals1 r
  cases rx
  obtain ⟨its, rv, pl, hz⟩ := I.tuple hq
  have hlen := rv.length
  obtain ⟨o, ho, hc, n, hd⟩ := id pl
  refine call_list_seq p (.inr rfl) ho hc hd (fun h' c' kp e => ?_) (by simp only [List.size_toArray]; omega)
  exact ⟨.ref s.heap.objs.size, _, I.laid (t' := s.toks) kp (Nat.le_refl _) (show ObjOk X.prog X.w _ h' _ (.lst ys) from ⟨hz, its, c', rv, e⟩), rfl, q _ (I.hok.fresh (Nat.le_refl _)) (Nat.ne_of_gt I.big)⟩
/-- t[lo:hi], some tuple of the cut: t or a new one -/
def rSlS (K : PySem.W.Frag) : V → Option Int → Option Int → Hp → VK → Prop := fun x lo hi H Q => ∃ a xs, x = .ref a ∧ Rd H a (.tup xs) ∧ ∀ q H', Same H H' → Rd H' q (.tup (cutV xs lo hi)) → (q = a ∨ H q = none) → Q (.ref q) H'
theorem sl_tupS : SlR X (rSlS X.K) := by
  intro pins s σ H x v vl vu lo hi sl Q I rx hs pl pu h
  obtain ⟨a, xs, rfl, hx, q⟩ := h
  refine sl_tupA pins s σ H _ v vl vu lo hi sl Q I rx hs pl pu ⟨a, xs, rfl, .inl hx, fun hw => ?_, fun hw p hp => ?_⟩
  · refine q a H (Same.refl H) ?_ (.inl rfl)
    have e : cutV xs lo hi = xs := by
      unfold cutV
      rw [hw.1, hw.2, List.drop_zero, Nat.sub_zero, List.take_length]
    rw [e]
    exact hx
  · exact q p _ (same_new hp) (.inl upd_same) (.inr hp)
/-- t + u, some tuple of both -/
def rCatS (K : PySem.W.Frag) : R2 := fun x y H Q => ∃ a b xs ys, x = .ref a ∧ y = .ref b ∧ Rd H a (.tup xs) ∧ Rd H b (.tup ys) ∧ xs.length + ys.length ≤ sizeLine ∧ ∀ q H', Same H H' → Rd H' q (.tup (xs ++ ys)) → (q = a ∨ q = b ∨ H q = none) → Q (.ref q) H'
theorem op_catS : OpR X (binaryOp .Add) (rCatS X.K) := by
  intro pins s σ H x y v u Q I rx ry h
  obtain ⟨a, b, xs, ys, rfl, rfl, hx, hy, hz, q⟩ := h
  refine op_catA pins s σ H _ _ v u Q I rx ry ⟨a, b, xs, ys, rfl, rfl, .inl hx, .inl hy, hz, fun e => ?_, fun _ e => ?_, fun _ _ p hp => ?_⟩
  · subst e
    exact q b H (Same.refl H) hy (.inr (.inl rfl))
  · subst e
    refine q a H (Same.refl H) ?_ (.inl rfl)
    rw [List.append_nil]
    exact hx
  · exact q p _ (same_new hp) (.inl upd_same) (.inr (.inr hp))
end
theorem cut_take (xs : List V) (j : Nat) (h : j ≤ xs.length) : cutV xs none (some (j : Int)) = xs.take j := by
  unfold cutV
  rw [HT.sIx_none, HT.sIx_nat, List.drop_zero, Nat.sub_zero, Nat.min_eq_left h]
theorem cut_drop (xs : List V) (j : Nat) (h : j ≤ xs.length) : cutV xs (some (j : Int)) none = xs.drop j := by
  unfold cutV
  rw [HT.sIx_none, HT.sIx_nat, Nat.min_eq_left h]
  exact List.take_of_length_le (by rw [List.length_drop]; omega)
theorem cut_mid (xs : List V) (j : Nat) (h : j < xs.length) : cutV xs (some (j : Int)) (some ((j + 1 : Nat) : Int)) = (xs.drop j).take 1 := by
  unfold cutV
  rw [HT.sIx_nat, HT.sIx_nat, Nat.min_eq_left (by omega), Nat.min_eq_left (by omega)]
  congr 1
  omega
/-! ### small data -/
mutual
def sm : PyData → Bool
  | .none => true
  | .bool _ => true
  | .int i => decide (i.natAbs ≤ 10 ^ 30)
  | .str x => decide ((reprText x).length ≤ 20)
  | .list xs => smAll xs
  | .tuple xs => smAll xs
  | .dict kvs => kvs.isEmpty
def smAll : List PyData → Bool
  | [] => true
  | x :: xs => sm x && smAll xs
end
theorem smAll_iff : ∀ xs : List PyData, smAll xs = true ↔ ∀ x ∈ xs, sm x = true
  | [] => by simp [smAll]
  | x :: xs => by
    rw [smAll, Bool.and_eq_true, smAll_iff xs]
    simp
theorem sm_tup (xs : List PyData) : sm (.tuple xs) = true ↔ ∀ x ∈ xs, sm x = true := by rw [sm]; exact smAll_iff xs
theorem sm_lst (xs : List PyData) : sm (.list xs) = true ↔ ∀ x ∈ xs, sm x = true := by rw [sm]; exact smAll_iff xs
theorem depthAll_le : ∀ {xs : List PyData} {n : Nat}, PyData.depthAll xs ≤ n ↔ ∀ x ∈ xs, x.depth ≤ n
  | [], n => by simp [PyData.depthAll]
  | x :: xs, n => by
    rw [PyData.depthAll, Nat.max_le, depthAll_le (xs := xs)]
    simp
theorem depth_tup (xs : List PyData) : (PyData.tuple xs).depth = PyData.depthAll xs + 1 := by rw [PyData.depth]
theorem depth_lst (xs : List PyData) : (PyData.list xs).depth = PyData.depthAll xs + 1 := by rw [PyData.depth]
mutual
theorem sm_show : ∀ d : PyData, sm d = true → d.showable = true
  | .none, _ => by simp [PyData.showable]
  | .bool _, _ => by simp [PyData.showable]
  | .int i, h => by
    rw [sm, decide_eq_true_eq] at h
    rw [PyData.showable, decide_eq_true_eq]
    have h2 : i.natAbs < 2 ^ 100 := Nat.lt_of_le_of_lt h (by decide)
    by_cases z : i.natAbs = 0
    · rw [z]
      decide
    · exact Nat.lt_trans ((Nat.log2_lt z).mpr h2) (by decide)
  | .str _, _ => by simp [PyData.showable]
  | .list xs, h => by
    rw [PyData.showable]
    exact smAll_show xs (by rw [sm] at h; exact h)
  | .tuple xs, h => by
    rw [PyData.showable]
    exact smAll_show xs (by rw [sm] at h; exact h)
  | .dict kvs, h => by
    rw [sm] at h
    rw [List.isEmpty_iff.mp h]
    simp [PyData.showable, PyData.showableKv]
theorem smAll_show : ∀ xs : List PyData, smAll xs = true → PyData.showableAll xs = true
  | [], _ => by simp [PyData.showableAll]
  | x :: xs, h => by
    rw [smAll, Bool.and_eq_true] at h
    rw [PyData.showableAll, sm_show x h.1, smAll_show xs h.2]
    rfl
end
mutual
theorem sm_len : ∀ d : PyData, sm d = true → d.shown.length + 5 ≤ 60 * nodes d
  | .none, _ => by
    rw [PyData.shown, nodes]
    decide +kernel
  | .bool b, _ => by
    rw [PyData.shown, nodes]
    cases b <;> decide +kernel
  | .int i, h => by
    rw [sm, decide_eq_true_eq] at h
    rw [PyData.shown, nodes, PySem.ofString_length]
    have := int_text_length_le10 (a := i) (k := 31) (by decide) (Nat.lt_of_le_of_lt h (by decide))
    omega
  | .str x, h => by
    rw [sm, decide_eq_true_eq] at h
    rw [PyData.shown, nodes]
    omega
  | .list xs, h => by
    rw [PyData.shown, nodes]
    have h1 := smAll_len xs (by rw [sm] at h; exact h)
    have h2 := listText_len_le (PyData.shownAll xs)
    omega
  | .tuple xs, h => by
    rw [PyData.shown, nodes]
    have h1 := smAll_len xs (by rw [sm] at h; exact h)
    have h2 := tupleText_len_le (PyData.shownAll xs)
    omega
  | .dict kvs, h => by
    rw [sm] at h
    rw [List.isEmpty_iff.mp h, PyData.shown, PyData.shownKv, nodes]
    have h2 := dictText_len_le []
    simp only [List.map_nil, List.sum_nil, List.length_nil] at h2
    omega
theorem smAll_len : ∀ xs : List PyData, smAll xs = true → ((PyData.shownAll xs).map (·.length)).sum + 2 * (PyData.shownAll xs).length ≤ 60 * nodesAll xs
  | [], _ => by
    rw [PyData.shownAll, nodesAll]
    decide
  | x :: xs, h => by
    rw [smAll, Bool.and_eq_true] at h
    have h1 := sm_len x h.1
    have h2 := smAll_len xs h.2
    rw [PyData.shownAll, nodesAll, List.map_cons, List.sum_cons, List.length_cons]
    omega
end
theorem sm_fits {d : PyData} (h : sm d = true) (hn : nodes d ≤ 100000) : d.shown.length ≤ sizeLine := by
  have := sm_len d h
  exact Nat.le_trans (show d.shown.length ≤ 6000000 by omega) (by decide)
/-- all of B is tracked -/
def TB (B : Addr → Prop) (H : Hp) : Prop := ∀ b, B b → H b ≠ none
theorem tb_off {B : Addr → Prop} {H : Hp} {p : Addr} (tb : TB B H) (n : H p = none) : ¬ B p := fun z => tb p z n
theorem tb_upd {B : Addr → Prop} {H : Hp} {p : Addr} {o : HO} (tb : TB B H) : TB B (upd H p o) := fun b z e => by
  by_cases h : b = p
  · rw [h, upd_same] at e
    cases e
  · rw [upd_ne h] at e
    exact tb b z e
theorem tb_same {B : Addr → Prop} {H H' : Hp} (s : Same H H') (tb : TB B H) : TB B H' := fun b z e => by
  cases q : H b with
  | none => exact tb b z q
  | some o =>
    rw [s b o q] at e
    cases e
theorem tb_keep {B : Addr → Prop} {H H' : Hp} {a c : Addr} {cells : List Int} {n : Int} (tb : TB B H) (dk : DeckAt a c cells n H') (k : Keep (Bd a c) H H') : TB B H' := fun b z e => by
  by_cases h : Bd a c b
  · exact deck_off dk e h
  · cases q : H b with
    | none => exact tb b z q
    | some o =>
      rw [k b o h q] at e
      cases e
theorem new_tup {B : Addr → Prop} {p : Addr} {K : PySem.W.Frag} {H : Hp} {xs : List V} {ds : List PyData} (tb : TB B H) (h : H p = none) (ha : DtAll B K (upd H p (.tup xs)) xs ds) : Dt B K (upd H p (.tup xs)) (.ref p) (.tuple ds) :=
  .tup (tb_off tb h) (.inl upd_same) ha
theorem same_rd {H H' : Hp} {a : Addr} {o : HO} (s : Same H H') (h : Rd H a o) : Rd H' a o := Keep.rd (B := fun _ => False) (Keep.same s) (fun z => z) h
theorem deck_same {a c : Addr} {cells : List Int} {n : Int} {H H' : Hp} (s : Same H H') (h : DeckAt a c cells n H) : DeckAt a c cells n H' := ⟨h.1, s _ _ h.2.1, s _ _ h.2.2.1, h.2.2.2.1, h.2.2.2.2⟩
theorem sz_of {n : Nat} (h : n ≤ 100000) : n ≤ sizeLine := Nat.le_trans h (by decide)
theorem nb_of {B : Addr → Prop} {p q : Addr} {H : Hp} (tb : TB B H) (np : ¬ B p) (h : q = p ∨ H q = none) : ¬ B q := by
  rcases h with h | h
  · rw [h]
    exact np
  · exact tb_off tb h
theorem nb_of2 {B : Addr → Prop} {p r q : Addr} {H : Hp} (tb : TB B H) (np : ¬ B p) (nr : ¬ B r) (h : q = p ∨ q = r ∨ H q = none) : ¬ B q := by
  rcases h with h | h | h
  · rw [h]
    exact np
  · rw [h]
    exact nr
  · exact tb_off tb h
theorem same_seqL {K : PySem.W.Frag} {H H' : Hp} {a : Addr} {xs : List V} (s : Same H H') (h : SqL K H a xs) : SqL K H' a xs := L2.Same.seq s h
theorem same_all {B : Addr → Prop} {K : PySem.W.Frag} {H H' : Hp} {vs : List V} {ds : List PyData} (s : Same H H') (h : DtAll B K H vs ds) : DtAll B K H' vs ds := DtAll.keep (Keep.same s) _ _ h
section
variable {X : Cx}
/-- repr of data without dicts -/
def rReprP (K : PySem.W.Frag) : List V → Hp → VK → Prop := fun xs H Q => ∃ (a : Addr) (ds : List PyData), xs = [.ref a] ∧ Dp K H (.ref a) (.list ds) ∧ (PyData.list ds).showable = true ∧ (PyData.list ds).hasDict = false ∧ (PyData.list ds).depth ≤ 60 ∧ (PyData.list ds).shown.length ≤ sizeLine ∧ Q (.str (PyData.list ds).shown) H
theorem call_reprP (hG : X.A.guards = some []) (hu : X.A.units + 64 < cLine) : CallR X (.builtin "repr") (rReprP X.K) := by
  intro pins s σ H xs us Q I r h
  obtain ⟨a, ds, rfl, hd, hs, hn, hdp, hz, q⟩ := h
  obtain ⟨u, rfl, rx⟩ := vals1 r
  obtain ⟨as, rd⟩ := Dp.reads I _ _ u hd rx
  cases rx
  exact repr_of_reads' rd hs (PyData.noDict_hsm hn) hG (by omega) (fun _ _ e => e) (fun h' u tk hk => ⟨.str _, H, I.kept hk, ⟨_, rfl⟩, q⟩) hz
/-! ### t * 1, t[::-1] of three -/
theorem mul_one (l : Addr) (items : Array Value) (n : Nat) (dd : Option Addr) (sl : Array (Option Value)) (u : Tok) :
    Meets (Builtin.«tuple.__mul__» ⟨[.ref l, .int 1 u], []⟩) (fun _ R s => s.heap.get? l = some { cls := .type "tuple", dict := dd, data := .seq items n, slots := sl } ∧ R (.ok (.ret (Value.ref l))) s) :=
  .of_wp fun prog w A R s h => by
    obtain ⟨hp, g, d, tk, os⟩ := s
    obtain ⟨hl, h⟩ := h
    have f1 := AutoSeq1.idx_int
    wp_walk using wpAny_loadPart' hl
    exact ⟨_, rfl, h⟩
def rRep1 (K : PySem.W.Frag) : R2 := fun x y H Q => ∃ l xs, x = .ref l ∧ y = .int 1 ∧ SqT K H l xs ∧ Q (.ref l) H
theorem op_rep1 : OpR X (binaryOp .Mult) (rRep1 X.K) := by
  intro pins s σ H x y v u Q I rx ry h
  obtain ⟨l, xs, rfl, rfl, hT, q⟩ := h
  cases rx
  obtain ⟨t, rfl⟩ := ry
  obtain ⟨its, r, ⟨⟨cls, dd, data, sl⟩, ho, hc, n, hd⟩, _⟩ := I.tuple hT
  cases hc
  cases hd
  exact wpAny_binaryOp_repeat_ref (T := "tuple") (U := "int") (by decide) ⟨_, ho, rfl⟩ (fun s' => typeIs_int s' 1 t) noFill_tuple_mul F.fills_int_mul F.slot_int_rmul repeat_tuple F.slot_int_index.lookup
    (call_meets F.slot_int_rmul (typeIs_int s 1 t) F.entry_int_rmul (F.args_int_rmul_2 _ _) (int_rmul_tuple 1 t l its.toArray n dd sl)
      ⟨ho, rfl, ⟨_, ho, rfl⟩, call_meets F.slot_tuple_mul ⟨_, ho, rfl⟩ F.entry_tuple_mul (F.args_tuple_mul_2 _ _) (mul_one l its.toArray n dd sl t) ⟨ho, .ref l, H, I, rfl, q⟩⟩)
/-- t * k for a small k from 1 on -/
def rRepS (K : PySem.W.Frag) : R2 := fun x y H Q => ∃ l k xs, x = .ref l ∧ y = .int k ∧ Rd H l (.tup xs) ∧ xs ≠ [] ∧ 1 ≤ k ∧ k ≤ 1000 ∧ xs.length ≤ 1000 ∧ ∀ q H', Same H H' → Rd H' q (.tup (List.replicate k.toNat xs).flatten) → (q = l ∨ H q = none) → Q (.ref q) H'
theorem op_repS : OpR X (binaryOp .Mult) (rRepS X.K) := by
  intro pins s σ H x y v u Q I rx ry h
  obtain ⟨l, k, xs, rfl, rfl, hT, hne, k1, k2, hz, q⟩ := h
  by_cases e : k = 1
  · subst e
    refine op_rep1 pins s σ H _ _ v u Q I rx ry ⟨l, xs, rfl, rfl, .inl hT, q l H (Same.refl H) ?_ (.inl rfl)⟩
    rw [show (List.replicate (1 : Int).toNat xs).flatten = xs by simp]
    exact hT
  · exact op_repT pins s σ H _ _ v u Q I rx ry ⟨l, k, xs, rfl, rfl, .inl hT, hne, by omega, k2, hz, fun p hp => q p _ (same_new hp) (.inl upd_same) (.inr hp)⟩
end
/-! ### rows, their edges, potentials -/
abbrev Rows := List (List (Option Nat))
/-- from u by a letter to v, worth g -/
def Edge (rs : Rows) (f : List Int) (u v : Nat) (g : Int) : Prop := ∃ (row : List (Option Nat)) (l : Nat), rs[u]? = some row ∧ row[l]? = some (some v) ∧ f[l]? = some g
inductive Reach (rs : Rows) : Nat → Prop
  | z : Reach rs 0
  | s {u v l : Nat} {row : List (Option Nat)} : Reach rs u → rs[u]? = some row → row[l]? = some (some v) → Reach rs v
abbrev Ed := Nat × Nat × Int
def PotE (E : List Ed) (p : Nat → Int) : Prop := 0 ≤ p 0 ∧ ∀ e ∈ E, p e.1 + e.2.2 ≤ p e.2.1
structure RS where
  h : Nat → Option Int
  par : Nat → Option Nat
  R : Nat → Nat
  T : Nat → Nat
  now : Nat
def raises (e : Ed) (s : RS) : Bool := match s.h e.1 with
  | none => false
  | some a => match s.h e.2.1 with
    | none => true
    | some b => decide (b < a + e.2.2)
def relax (i : Nat) (e : Ed) (s : RS) : RS := if raises e s then
    { h := fun x => if x = e.2.1 then some ((s.h e.1).getD 0 + e.2.2) else s.h x
      par := fun x => if x = e.2.1 then some e.1 else s.par x
      R := fun x => if x = e.2.1 then i else s.R x
      T := fun x => if x = e.2.1 then s.now + 1 else s.T x
      now := s.now + 1 } else s
def settled (e : Ed) (s : RS) : Prop := ∀ a, s.h e.1 = some a → ∃ b, s.h e.2.1 = some b ∧ a + e.2.2 ≤ b
structure RInv (E : List Ed) (i : Nat) (E1 E2 : List Ed) (last : Option Nat) (s : RS) : Prop where
  one : 1 ≤ i
  zero : ∃ a, s.h 0 = some a ∧ 0 ≤ a
  rle : ∀ v, s.R v ≤ i
  par : ∀ v, 1 ≤ s.R v → ∃ u g a b, s.par v = some u ∧ (u, v, g) ∈ E ∧ s.R v ≤ s.R u + 1 ∧ s.h u = some a ∧ s.h v = some b ∧ b ≤ a + g ∧ (s.T v ≤ s.T u → b < a + g)
  par0 : ∀ v, s.R v = 0 → s.par v = none
  done : ∀ e ∈ E1, s.R e.1 < i → settled e s
  todo : ∀ e ∈ E2, s.R e.1 + 1 < i → settled e s
  tle : ∀ v, s.T v ≤ s.now
  low : ∀ p, PotE E p → ∀ v a, s.h v = some a → a ≤ p v
  bnd : ∀ v a, s.h v = some a → -(100 * (s.now : Int)) ≤ a ∧ a ≤ 100 * (s.now : Int)
  dom : ∀ v a, s.h v = some a → v = 0 ∨ ∃ e ∈ E, e.2.1 = v
  lastN : last = none → ∀ e ∈ E1, settled e s
  lastS : ∀ v, last = some v → s.R v = i
  nowle : s.now ≤ (i - 1) * E.length + E1.length
def rs0 : RS := { h := fun x => if x = 0 then some 0 else none, par := fun _ => none, R := fun _ => 0, T := fun _ => 0, now := 0 }
theorem rinv0 {E : List Ed} : RInv E 1 [] E none rs0 where
  one := Nat.le_refl _
  zero := ⟨0, rfl, Int.le_refl _⟩
  rle := fun _ => Nat.zero_le _
  par := fun v h => absurd h (by show ¬ 1 ≤ 0; omega)
  par0 := fun _ _ => rfl
  done := fun e h => absurd h List.not_mem_nil
  todo := fun e _ h => by
    have : rs0.R e.1 + 1 < 1 := h
    omega
  tle := fun _ => Nat.le_refl _
  low := fun p hp v a h => by
    have h : (if v = 0 then some (0 : Int) else none) = some a := h
    by_cases e : v = 0
    · rw [if_pos e] at h
      cases h
      rw [e]
      exact hp.1
    · rw [if_neg e] at h
      cases h
  bnd := fun v a h => by
    have h : (if v = 0 then some (0 : Int) else none) = some a := h
    by_cases e : v = 0
    · rw [if_pos e] at h
      cases h
      exact ⟨by show -(100 * ((0 : Nat) : Int)) ≤ 0; omega, by show 0 ≤ 100 * ((0 : Nat) : Int); omega⟩
    · rw [if_neg e] at h
      cases h
  dom := fun v a h => by
    have h : (if v = 0 then some (0 : Int) else none) = some a := h
    by_cases e : v = 0
    · exact .inl e
    · rw [if_neg e] at h
      cases h
  lastN := fun _ e h => absurd h List.not_mem_nil
  lastS := fun v h => by cases h
  nowle := Nat.zero_le _
theorem raises_iff {e : Ed} {s : RS} : raises e s = true ↔ ∃ a, s.h e.1 = some a ∧ ∀ b, s.h e.2.1 = some b → b < a + e.2.2 := by
  unfold raises
  cases h1 : s.h e.1 with
  | none => simp
  | some a =>
    cases h2 : s.h e.2.1 with
    | none => simp
    | some b => simp
theorem not_raises {e : Ed} {s : RS} (h : ¬ raises e s = true) : settled e s := by
  intro a ha
  unfold raises at h
  rw [ha] at h
  cases h2 : s.h e.2.1 with
  | none =>
    rw [h2] at h
    exact absurd rfl h
  | some b =>
    rw [h2] at h
    have h : ¬ decide (b < a + e.2.2) = true := h
    rw [decide_eq_true_eq] at h
    exact ⟨b, rfl, by omega⟩
theorem rinv_step {E : List Ed} {i : Nat} {e : Ed} {E1 E2 : List Ed} {last : Option Nat} {s : RS} (he : e ∈ E) (hg : -100 ≤ e.2.2 ∧ e.2.2 ≤ 100) (I : RInv E i E1 (e :: E2) last s) :
    RInv E i (E1 ++ [e]) E2 (if raises e s then some e.2.1 else last) (relax i e s) := by
  by_cases hr : raises e s = true
  · rw [if_pos hr]
    unfold relax
    rw [if_pos hr]
    obtain ⟨u, v, g⟩ := e
    obtain ⟨a, ha, hb⟩ := raises_iff.mp hr
    simp only at ha hb hg
    have hRu : i ≤ s.R u + 1 := by
      refine Nat.le_of_not_lt fun z => ?_
      obtain ⟨b, h1, h2⟩ := I.todo _ List.mem_cons_self z a ha
      have := hb b h1
      simp only at h2
      omega
    have hup : ∀ x b, s.h x = some b → ∃ b', (if x = v then some ((s.h u).getD 0 + g) else s.h x) = some b' ∧ b ≤ b' := by
      intro x b hx
      by_cases e : x = v
      · rw [if_pos e, ha]
        refine ⟨a + g, rfl, ?_⟩
        rw [e] at hx
        have := hb b hx
        omega
      · rw [if_neg e]
        exact ⟨b, hx, Int.le_refl _⟩
    have hset : ∀ e' : Ed, e'.1 ≠ v → settled e' s → settled e' { h := fun x => if x = v then some ((s.h u).getD 0 + g) else s.h x, par := fun x => if x = v then some u else s.par x, R := fun x => if x = v then i else s.R x, T := fun x => if x = v then s.now + 1 else s.T x, now := s.now + 1 } := by
      intro e' hne hs a' ha'
      simp only at ha'
      rw [if_neg hne] at ha'
      obtain ⟨b, h1, h2⟩ := hs a' ha'
      obtain ⟨b', h3, h4⟩ := hup _ b h1
      exact ⟨b', h3, by omega⟩
    have hself : u ≠ v → settled (u, v, g) { h := fun x => if x = v then some ((s.h u).getD 0 + g) else s.h x, par := fun x => if x = v then some u else s.par x, R := fun x => if x = v then i else s.R x, T := fun x => if x = v then s.now + 1 else s.T x, now := s.now + 1 } := by
      intro hne a' ha'
      simp only at ha'
      rw [if_neg hne, ha] at ha'
      cases ha'
      refine ⟨a + g, ?_, Int.le_refl _⟩
      show (if v = v then some ((s.h u).getD 0 + g) else s.h v) = some (a + g)
      rw [if_pos rfl, ha]
      rfl
    refine ⟨I.one, ?_, fun x => ?_, fun x hx => ?_, fun x hx => ?_, fun e' h' hR => ?_, fun e' h' hR => ?_, fun x => ?_, fun p hp x b hx => ?_, fun x b hx => ?_, fun x b hx => ?_, fun z => ?_, fun x hx => ?_, ?_⟩
    · obtain ⟨b, h1, h2⟩ := I.zero
      obtain ⟨b', h3, h4⟩ := hup 0 b h1
      exact ⟨b', h3, by omega⟩
    · show (if x = v then i else s.R x) ≤ i
      by_cases e : x = v
      · rw [if_pos e]
        exact Nat.le_refl _
      · rw [if_neg e]
        exact I.rle x
    · by_cases e : x = v
      · subst e
        refine ⟨u, g, if u = x then a + g else a, a + g, if_pos rfl, he, ?_, ?_, ?_, ?_, ?_⟩
        · show (if x = x then i else s.R x) ≤ (if u = x then i else s.R u) + 1
          rw [if_pos rfl]
          by_cases e2 : u = x
          · rw [if_pos e2]
            omega
          · rw [if_neg e2]
            exact hRu
        · show (if u = x then some ((s.h u).getD 0 + g) else s.h u) = some (if u = x then a + g else a)
          by_cases e2 : u = x
          · rw [if_pos e2, if_pos e2, ha]
            rfl
          · rw [if_neg e2, if_neg e2, ha]
        · show (if x = x then some ((s.h u).getD 0 + g) else s.h x) = some (a + g)
          rw [if_pos rfl, ha]
          rfl
        · by_cases e2 : u = x
          · rw [if_pos e2]
            have := hb a (e2 ▸ ha)
            omega
          · rw [if_neg e2]
            omega
        · intro ht
          by_cases e2 : u = x
          · rw [if_pos e2]
            have := hb a (e2 ▸ ha)
            omega
          · have ht : (if x = x then s.now + 1 else s.T x) ≤ (if u = x then s.now + 1 else s.T u) := ht
            rw [if_pos rfl, if_neg e2] at ht
            have := I.tle u
            omega
      · have hx : 1 ≤ (if x = v then i else s.R x) := hx
        rw [if_neg e] at hx
        obtain ⟨u', g', a', b', p1, p2, p3, p4, p5, p6, p7⟩ := I.par x hx
        by_cases e2 : u' = v
        · have h9 := hb a' (e2 ▸ p4)
          refine ⟨u', g', a + g, b', ?_, p2, ?_, ?_, ?_, ?_, fun _ => ?_⟩
          · show (if x = v then some u else s.par x) = some u'
            rw [if_neg e, p1]
          · show (if x = v then i else s.R x) ≤ (if u' = v then i else s.R u') + 1
            rw [if_neg e, if_pos e2]
            have := I.rle x
            omega
          · show (if u' = v then some ((s.h u).getD 0 + g) else s.h u') = some (a + g)
            rw [if_pos e2, ha]
            rfl
          · show (if x = v then some ((s.h u).getD 0 + g) else s.h x) = some b'
            rw [if_neg e, p5]
          · omega
          · omega
        · refine ⟨u', g', a', b', ?_, p2, ?_, ?_, ?_, p6, fun ht => p7 ?_⟩
          · show (if x = v then some u else s.par x) = some u'
            rw [if_neg e, p1]
          · show (if x = v then i else s.R x) ≤ (if u' = v then i else s.R u') + 1
            rw [if_neg e, if_neg e2]
            exact p3
          · show (if u' = v then some ((s.h u).getD 0 + g) else s.h u') = some a'
            rw [if_neg e2, p4]
          · show (if x = v then some ((s.h u).getD 0 + g) else s.h x) = some b'
            rw [if_neg e, p5]
          · have ht : (if x = v then s.now + 1 else s.T x) ≤ (if u' = v then s.now + 1 else s.T u') := ht
            rw [if_neg e, if_neg e2] at ht
            exact ht
    · have hx : (if x = v then i else s.R x) = 0 := hx
      show (if x = v then some u else s.par x) = none
      by_cases e : x = v
      · rw [if_pos e] at hx
        have h1 := I.one
        omega
      · rw [if_neg e] at hx ⊢
        exact I.par0 x hx
    · have hR : (if e'.1 = v then i else s.R e'.1) < i := hR
      by_cases e : e'.1 = v
      · rw [if_pos e] at hR
        omega
      · rw [if_neg e] at hR
        rcases List.mem_append.mp h' with h' | h'
        · exact hset e' e (I.done e' h' hR)
        · rw [List.mem_singleton.mp h']
          rw [List.mem_singleton.mp h'] at e
          exact hself e
    · have hR : (if e'.1 = v then i else s.R e'.1) + 1 < i := hR
      by_cases e : e'.1 = v
      · rw [if_pos e] at hR
        omega
      · rw [if_neg e] at hR
        exact hset e' e (I.todo e' (List.mem_cons_of_mem _ h') hR)
    · show (if x = v then s.now + 1 else s.T x) ≤ s.now + 1
      by_cases e : x = v
      · rw [if_pos e]
        exact Nat.le_refl _
      · rw [if_neg e]
        exact Nat.le_succ_of_le (I.tle x)
    · have hx : (if x = v then some ((s.h u).getD 0 + g) else s.h x) = some b := hx
      by_cases e : x = v
      · rw [if_pos e, ha] at hx
        cases hx
        have h1 := I.low p hp u a ha
        have h2 := hp.2 _ he
        simp only at h2
        rw [e]
        show a + g ≤ p v
        omega
      · rw [if_neg e] at hx
        exact I.low p hp x b hx
    · have hx : (if x = v then some ((s.h u).getD 0 + g) else s.h x) = some b := hx
      show -(100 * ((s.now + 1 : Nat) : Int)) ≤ b ∧ b ≤ 100 * ((s.now + 1 : Nat) : Int)
      by_cases e : x = v
      · rw [if_pos e, ha] at hx
        cases hx
        have h1 := I.bnd u a ha
        show -(100 * ((s.now + 1 : Nat) : Int)) ≤ a + g ∧ a + g ≤ 100 * ((s.now + 1 : Nat) : Int)
        omega
      · rw [if_neg e] at hx
        have h1 := I.bnd x b hx
        omega
    · have hx : (if x = v then some ((s.h u).getD 0 + g) else s.h x) = some b := hx
      by_cases e : x = v
      · exact .inr ⟨_, he, e.symm⟩
      · rw [if_neg e] at hx
        exact I.dom x b hx
    · cases z
    · cases hx
      show (if v = v then i else s.R v) = i
      rw [if_pos rfl]
    · have := I.nowle
      rw [List.length_append, List.length_singleton]
      show s.now + 1 ≤ _
      omega
  · rw [if_neg hr]
    unfold relax
    rw [if_neg hr]
    have hs := not_raises hr
    refine ⟨I.one, I.zero, I.rle, I.par, I.par0, fun e' h' hR => ?_, fun e' h' hR => I.todo e' (List.mem_cons_of_mem _ h') hR, I.tle, I.low, I.bnd, I.dom, fun z e' h' => ?_, I.lastS, ?_⟩
    · rcases List.mem_append.mp h' with h' | h'
      · exact I.done e' h' hR
      · rw [List.mem_singleton.mp h']
        exact hs
    · rcases List.mem_append.mp h' with h' | h'
      · exact I.lastN z e' h'
      · rw [List.mem_singleton.mp h']
        exact hs
    · have := I.nowle
      rw [List.length_append, List.length_singleton]
      omega
theorem rinv_next {E : List Ed} {i : Nat} {last : Option Nat} {s : RS} (I : RInv E i E [] last s) : RInv E (i + 1) [] E none s where
  one := Nat.le_succ_of_le I.one
  zero := I.zero
  rle := fun v => Nat.le_succ_of_le (I.rle v)
  par := I.par
  par0 := I.par0
  done := fun e h => absurd h List.not_mem_nil
  todo := fun e h hR => I.done e h (by omega)
  tle := I.tle
  low := I.low
  bnd := I.bnd
  dom := I.dom
  lastN := fun _ e h => absurd h List.not_mem_nil
  lastS := fun v h => by cases h
  nowle := by
    have h1 := I.nowle
    have h2 := I.one
    rw [List.length_nil, Nat.add_sub_cancel]
    have h3 : i * E.length = (i - 1) * E.length + E.length := by
      rw [← Nat.succ_mul]
      congr 1
      omega
    omega
/-- more turns than a list has items: one comes twice -/
theorem pigeon (L : List Nat) : ∀ (c : Nat → Nat), (∀ k, k ≤ L.length → c k ∈ L) → ∃ a b, a < b ∧ b ≤ L.length ∧ c a = c b := by
  suffices H : ∀ (n : Nat) (L : List Nat) (c : Nat → Nat), L.length ≤ n → (∀ k, k ≤ n → c k ∈ L) → ∃ a b, a < b ∧ b ≤ n ∧ c a = c b from fun c h => H L.length L c (Nat.le_refl _) h
  intro n
  induction n with
  | zero =>
    intro L c hl h
    have := h 0 (Nat.le_refl _)
    cases L with
    | nil => exact absurd this List.not_mem_nil
    | cons x xs => simp at hl
  | succ n ih =>
    intro L c hl h
    by_cases e : ∃ k, k ≤ n ∧ c k = c (n + 1)
    · obtain ⟨k, h1, h2⟩ := e
      exact ⟨k, n + 1, by omega, Nat.le_refl _, h2⟩
    · have hm := h (n + 1) (Nat.le_refl _)
      obtain ⟨a, b, h1, h2, h3⟩ := ih (L.erase (c (n + 1))) c (by rw [List.length_erase_of_mem hm]; omega) (fun k hk => by
        have h4 : c k ≠ c (n + 1) := fun z => e ⟨k, hk, z⟩
        exact (List.mem_erase_of_ne h4).mpr (h k (by omega)))
      exact ⟨a, b, h1, by omega, h3⟩
def chainP (s : RS) (v : Nat) : Nat → Nat
  | 0 => v
  | k + 1 => (s.par (chainP s v k)).getD 0
section
variable {E : List Ed} {i : Nat} {E1 E2 : List Ed} {last : Option Nat} {s : RS} {ord : List Nat} {v : Nat}
theorem chain_R (I : RInv E i E1 E2 last s) (hv : ord.length ≤ s.R v) : ∀ k, k < ord.length → ord.length ≤ s.R (chainP s v k) + k ∧ 1 ≤ s.R (chainP s v k) := by
  intro k
  induction k with
  | zero => intro h; exact ⟨hv, by show 1 ≤ s.R v; omega⟩
  | succ k ih =>
    intro h
    obtain ⟨h1, h2⟩ := ih (by omega)
    obtain ⟨u, g, a, b, p1, p2, p3, _⟩ := I.par _ h2
    have e : chainP s v (k + 1) = u := by
      show (s.par (chainP s v k)).getD 0 = u
      rw [p1]
      rfl
    rw [e]
    omega
theorem chain_mem (I : RInv E i E1 E2 last s) (hE : ∀ e ∈ E, e.1 ∈ ord ∧ e.2.1 ∈ ord) (hv : ord.length ≤ s.R v) (hn : 1 ≤ ord.length) : ∀ k, k ≤ ord.length → chainP s v k ∈ ord := by
  intro k hk
  cases k with
  | zero =>
    obtain ⟨u, g, a, b, p1, p2, _⟩ := I.par v (by omega)
    exact (hE _ p2).2
  | succ k =>
    obtain ⟨h1, h2⟩ := chain_R I hv k (by omega)
    obtain ⟨u, g, a, b, p1, p2, p3, _⟩ := I.par _ h2
    have e : chainP s v (k + 1) = u := by
      show (s.par (chainP s v k)).getD 0 = u
      rw [p1]
      rfl
    rw [e]
    exact (hE _ p2).1
theorem chain_per {a b : Nat} (h : chainP s v a = chainP s v b) : ∀ j, chainP s v (a + j) = chainP s v (b + j) := by
  intro j
  induction j with
  | zero => exact h
  | succ j ih =>
    show (s.par (chainP s v (a + j))).getD 0 = (s.par (chainP s v (b + j))).getD 0
    rw [ih]
/-- each state that is come to against the edges was raised -/
theorem chain_all (I : RInv E i E1 E2 last s) (hE : ∀ e ∈ E, e.1 ∈ ord ∧ e.2.1 ∈ ord) (hv : ord.length ≤ s.R v) (hn : 1 ≤ ord.length) : ∀ k, 1 ≤ s.R (chainP s v k) := by
  obtain ⟨a, b, h1, h2, h3⟩ := pigeon ord (chainP s v) (chain_mem I hE hv hn)
  intro k
  induction k using Nat.strongRecOn with
  | ind k ih =>
    by_cases hk : k < ord.length
    · exact (chain_R I hv k hk).2
    · have e := chain_per h3 (k - b)
      rw [show b + (k - b) = k by omega] at e
      rw [← e]
      exact ih _ (by omega)
/-- raised in a late round: no potential -/
theorem no_pot (I : RInv E i E1 E2 last s) (hE : ∀ e ∈ E, e.1 ∈ ord ∧ e.2.1 ∈ ord) (hv : ord.length ≤ s.R v) (hn : 1 ≤ ord.length) (p : Nat → Int) (hp : PotE E p) : False := by
  obtain ⟨a, b, h1, h2, h3⟩ := pigeon ord (chainP s v) (chain_mem I hE hv hn)
  have key : ∀ j, (s.h (chainP s v a)).getD 0 - p (chainP s v a) ≤ (s.h (chainP s v (a + j))).getD 0 - p (chainP s v (a + j)) ∧
      ((s.h (chainP s v a)).getD 0 - p (chainP s v a) < (s.h (chainP s v (a + j))).getD 0 - p (chainP s v (a + j)) ∨ s.T (chainP s v (a + j)) + j ≤ s.T (chainP s v a)) := by
    intro j
    induction j with
    | zero => exact ⟨Int.le_refl _, .inr (Nat.le_refl _)⟩
    | succ j ih =>
      obtain ⟨u, g, x, y, p1, p2, p3, p4, p5, p6, p7⟩ := I.par _ (chain_all I hE hv hn (a + j))
      have e : chainP s v (a + (j + 1)) = u := by
        show (s.par (chainP s v (a + j))).getD 0 = u
        rw [p1]
        rfl
      have hpe := hp.2 _ p2
      simp only at hpe
      rw [e, p4]
      rw [p5] at ih
      simp only [Option.getD_some] at ih ⊢
      by_cases ht : s.T (chainP s v (a + j)) ≤ s.T u
      · have := p7 ht
        exact ⟨by omega, .inl (by omega)⟩
      · refine ⟨by omega, ?_⟩
        rcases ih.2 with h | h
        · exact .inl (by omega)
        · exact .inr (by omega)
  have hk := key (b - a)
  rw [show a + (b - a) = b by omega, ← h3] at hk
  omega
end
/-! ### the edges of rows, heights -/
def rowEd (f : List Int) (u : Nat) : Nat → List (Option Nat) → List Ed
  | _, [] => []
  | l, none :: r => rowEd f u (l + 1) r
  | l, some v :: r => (u, v, f.getD l 0) :: rowEd f u (l + 1) r
def edgesOf (rs : Rows) (f : List Int) (ord : List Nat) : List Ed := ord.flatMap fun u => rowEd f u 0 (rs.getD u [])
theorem mem_rowEd {f : List Int} {u : Nat} : ∀ {r : List (Option Nat)} {l : Nat} {e : Ed}, e ∈ rowEd f u l r ↔ e.1 = u ∧ ∃ k, r[k]? = some (some e.2.1) ∧ e.2.2 = f.getD (l + k) 0
  | [], l, e => by simp [rowEd]
  | none :: r, l, e => by
    rw [rowEd, mem_rowEd (r := r)]
    refine and_congr_right fun _ => ⟨fun ⟨k, h1, h2⟩ => ⟨k + 1, by simpa using h1, by rw [h2]; congr 1; omega⟩, fun ⟨k, h1, h2⟩ => ?_⟩
    cases k with
    | zero => simp at h1
    | succ k => exact ⟨k, by simpa using h1, by rw [h2]; congr 1; omega⟩
  | some v :: r, l, e => by
    rw [rowEd, List.mem_cons, mem_rowEd (r := r)]
    constructor
    · rintro (rfl | ⟨h, k, h1, h2⟩)
      · exact ⟨rfl, 0, rfl, rfl⟩
      · exact ⟨h, k + 1, by simpa using h1, by rw [h2]; congr 1; omega⟩
    · rintro ⟨h, k, h1, h2⟩
      cases k with
      | zero =>
        left
        simp at h1
        obtain ⟨a, b, c⟩ := e
        simp only at h h1 h2
        rw [h, ← h1, h2]
        rfl
      | succ k => exact .inr ⟨h, k, by simpa using h1, by rw [h2]; congr 1; omega⟩
/-- the form has something for each letter of each row -/
def Fits (rs : Rows) (f : List Int) : Prop := ∀ row ∈ rs, row.length = f.length
theorem mem_edges {rs : Rows} {f : List Int} {ord : List Nat} (hf : Fits rs f) {e : Ed} : e ∈ edgesOf rs f ord ↔ e.1 ∈ ord ∧ Edge rs f e.1 e.2.1 e.2.2 := by
  unfold edgesOf
  rw [List.mem_flatMap]
  constructor
  · rintro ⟨u, hu, he⟩
    obtain ⟨rfl, k, h1, h2⟩ := mem_rowEd.mp he
    rw [Nat.zero_add] at h2
    refine ⟨hu, ?_⟩
    cases hr : rs[e.1]? with
    | none =>
      rw [List.getD_eq_getElem?_getD, hr] at h1
      simp at h1
    | some row =>
      rw [List.getD_eq_getElem?_getD, hr] at h1
      have h1 : row[k]? = some (some e.2.1) := h1
      refine ⟨row, k, hr, h1, ?_⟩
      have hk := (List.getElem?_eq_some_iff.mp h1).1
      rw [hf row (List.mem_of_getElem? hr)] at hk
      rw [h2, List.getD_eq_getElem?_getD, List.getElem?_eq_getElem hk]
      rfl
  · rintro ⟨hu, row, k, h1, h2, h3⟩
    refine ⟨e.1, hu, mem_rowEd.mpr ⟨rfl, k, ?_, ?_⟩⟩
    · rw [List.getD_eq_getElem?_getD, h1]
      exact h2
    · rw [Nat.zero_add, List.getD_eq_getElem?_getD, h3]
      rfl
def Valid (rs : Rows) (es : List Bool) (f : List Int) (bd : Int) (hs : List (Option Int)) : Prop :=
  hs.length = rs.length ∧ (∃ a, hs[0]? = some (some a) ∧ 0 ≤ a) ∧ ∀ (u : Nat) (a : Int), hs[u]? = some (some a) → (es[u]? = some true → a ≤ bd) ∧ ∀ v g, Edge rs f u v g → ∃ b, hs[v]? = some (some b) ∧ a + g ≤ b
/-- the states that words come to, in some order -/
structure IsOrd (rs : Rows) (ord : List Nat) : Prop where
  mem : ∀ u, u ∈ ord ↔ Reach rs u
  lt : ∀ u ∈ ord, u < rs.length
  len : ord.length ≤ rs.length
  nd : ord.Nodup
theorem IsOrd.ne {rs : Rows} {ord : List Nat} (O : IsOrd rs ord) : 1 ≤ ord.length := by
  have := (O.mem 0).mpr .z
  cases ord with
  | nil => exact absurd this List.not_mem_nil
  | cons x xs => simp
theorem IsOrd.ends {rs : Rows} {f : List Int} {ord : List Nat} (O : IsOrd rs ord) (hf : Fits rs f) : ∀ e ∈ edgesOf rs f ord, e.1 ∈ ord ∧ e.2.1 ∈ ord := by
  intro e he
  obtain ⟨h1, row, l, h2, h3, _⟩ := (mem_edges hf).mp he
  exact ⟨h1, (O.mem _).mpr (.s ((O.mem _).mp h1) h2 h3)⟩
/-- all settled: each state that is come to has a height -/
theorem all_have {rs : Rows} {f : List Int} {ord : List Nat} {s : RS} (O : IsOrd rs ord) (hf : Fits rs f) (z : ∃ a, s.h 0 = some a ∧ 0 ≤ a) (S : ∀ e ∈ edgesOf rs f ord, settled e s) : ∀ u, Reach rs u → ∃ a, s.h u = some a := by
  intro u r
  induction r with
  | z => exact ⟨_, z.choose_spec.1⟩
  | s r h1 h2 ih =>
    rename_i u v l row
    obtain ⟨a, ha⟩ := ih
    have hl := (List.getElem?_eq_some_iff.mp h2).1
    rw [hf row (List.mem_of_getElem? h1)] at hl
    obtain ⟨b, hb, _⟩ := S (u, v, f[l]) ((mem_edges hf).mpr ⟨(O.mem _).mpr r, row, l, h1, h2, List.getElem?_eq_getElem hl⟩) a ha
    exact ⟨b, hb⟩
theorem pot_of {rs : Rows} {f : List Int} {ord : List Nat} {s : RS} (O : IsOrd rs ord) (hf : Fits rs f) (z : ∃ a, s.h 0 = some a ∧ 0 ≤ a) (S : ∀ e ∈ edgesOf rs f ord, settled e s) : PotE (edgesOf rs f ord) fun u => (s.h u).getD 0 := by
  refine ⟨?_, fun e he => ?_⟩
  · obtain ⟨a, h1, h2⟩ := z
    show 0 ≤ (s.h 0).getD 0
    rw [h1]
    exact h2
  · obtain ⟨a, ha⟩ := all_have O hf z S e.1 ((O.mem _).mp (O.ends hf e he).1)
    obtain ⟨b, hb, hab⟩ := S e he a ha
    show (s.h e.1).getD 0 + e.2.2 ≤ (s.h e.2.1).getD 0
    rw [ha, hb]
    exact hab
theorem valid_of {rs : Rows} {es : List Bool} {f : List Int} {bd : Int} {ord : List Nat} {s : RS} (O : IsOrd rs ord) (hf : Fits rs f) (z : ∃ a, s.h 0 = some a ∧ 0 ≤ a) (S : ∀ e ∈ edgesOf rs f ord, settled e s)
    (dom : ∀ v a, s.h v = some a → v = 0 ∨ ∃ e ∈ edgesOf rs f ord, e.2.1 = v) (B : ∀ u ∈ ord, es[u]? = some true → (s.h u).getD 0 ≤ bd) : Valid rs es f bd ((List.range rs.length).map s.h) := by
  have get : ∀ (u : Nat) (o : Option Int), ((List.range rs.length).map s.h)[u]? = some o → s.h u = o := by
    intro u o h
    rw [List.getElem?_map] at h
    obtain ⟨x, h1, h2⟩ := Option.map_eq_some_iff.mp h
    have := (List.getElem?_eq_some_iff.mp h1)
    obtain ⟨hl, hx⟩ := this
    rw [List.getElem_range] at hx
    rw [hx, h2]
  have put : ∀ u, u < rs.length → ((List.range rs.length).map s.h)[u]? = some (s.h u) := by
    intro u h
    rw [List.getElem?_map, List.getElem?_range h]
    rfl
  have inO : ∀ v a, s.h v = some a → v ∈ ord := by
    intro v a h
    rcases dom v a h with h | ⟨e, he, h⟩
    · rw [h]
      exact (O.mem 0).mpr .z
    · rw [← h]
      exact (O.ends hf e he).2
  refine ⟨by rw [List.length_map, List.length_range], ?_, fun u a h => ?_⟩
  · obtain ⟨a, h1, h2⟩ := z
    exact ⟨a, by rw [put 0 (O.lt 0 ((O.mem 0).mpr .z)), h1], h2⟩
  · have hu := get u _ h
    have uo := inO u a hu
    refine ⟨fun he => ?_, fun v g he => ?_⟩
    · have := B u uo he
      rw [hu] at this
      exact this
    · obtain ⟨b, hb, hab⟩ := S (u, v, g) ((mem_edges hf).mpr ⟨uo, he⟩) a hu
      exact ⟨b, by rw [put v (O.lt v (inO v b hb)), hb], hab⟩
/-- heights give a potential -/
theorem pot_of_valid {rs : Rows} {es : List Bool} {f : List Int} {bd : Int} {ord : List Nat} {hs : List (Option Int)} (O : IsOrd rs ord) (hf : Fits rs f) (V : Valid rs es f bd hs) :
    ∃ p, PotE (edgesOf rs f ord) p ∧ ∀ u ∈ ord, hs[u]? = some (some (p u)) := by
  have all : ∀ u, Reach rs u → ∃ a, hs[u]? = some (some a) := by
    intro u r
    induction r with
    | z => exact ⟨_, V.2.1.choose_spec.1⟩
    | s r h1 h2 ih =>
      rename_i u v l row
      obtain ⟨a, ha⟩ := ih
      have hl := (List.getElem?_eq_some_iff.mp h2).1
      rw [hf row (List.mem_of_getElem? h1)] at hl
      obtain ⟨b, hb, _⟩ := (V.2.2 u a ha).2 v f[l] ⟨row, l, h1, h2, List.getElem?_eq_getElem hl⟩
      exact ⟨b, hb⟩
  have val : ∀ (u : Nat) (a : Int), hs[u]? = some (some a) → ((hs[u]?).getD none).getD 0 = a := fun u a h => by rw [h]; rfl
  refine ⟨fun u => ((hs[u]?).getD none).getD 0, ⟨?_, fun e he => ?_⟩, fun u hu => ?_⟩
  · obtain ⟨a, h1, h2⟩ := V.2.1
    show 0 ≤ ((hs[0]?).getD none).getD 0
    rw [val 0 a h1]
    exact h2
  · obtain ⟨h1, h2⟩ := (mem_edges hf).mp he
    obtain ⟨a, ha⟩ := all e.1 ((O.mem _).mp h1)
    obtain ⟨b, hb, hab⟩ := (V.2.2 _ a ha).2 _ _ h2
    show ((hs[e.1]?).getD none).getD 0 + e.2.2 ≤ ((hs[e.2.1]?).getD none).getD 0
    rw [val _ a ha, val _ b hb]
    exact hab
  · obtain ⟨a, ha⟩ := all u ((O.mem _).mp hu)
    show hs[u]? = some (some (((hs[u]?).getD none).getD 0))
    rw [val _ a ha, ha]
/-! ### the row and the ring of many states -/
def rsLong (n : Nat) (ring : Bool) : Rows := (List.range (n - 1)).map (fun i => [some (i + 1)]) ++ [[if ring then some 0 else none]]
def esLong (n : Nat) : List Bool := List.replicate (n - 1) false ++ [true]
def hsLong (n : Nat) (own : Int) : List (Option Int) := (List.range n).map fun (i : Nat) => some (own * (i : Int))
theorem long_edge {n : Nat} {ring : Bool} {own : Int} (hn : 1 ≤ n) {u v : Nat} {g : Int} : Edge (rsLong n ring) [own] u v g ↔ g = own ∧ (u + 1 < n ∧ v = u + 1 ∨ u + 1 = n ∧ ring = true ∧ v = 0) := by
  have get : ∀ row, (rsLong n ring)[u]? = some row ↔ (u + 1 < n ∧ row = [some (u + 1)] ∨ u + 1 = n ∧ row = [if ring then some 0 else none]) := by
    intro row
    unfold rsLong
    by_cases h : u < n - 1
    · rw [List.getElem?_append_left (by rw [List.length_map, List.length_range]; exact h), List.getElem?_map, List.getElem?_range h]
      constructor
      · intro e
        exact .inl ⟨by omega, (Option.some.inj e).symm⟩
      · rintro (⟨_, rfl⟩ | ⟨e, _⟩)
        · rfl
        · omega
    · rw [List.getElem?_append_right (by rw [List.length_map, List.length_range]; omega), List.length_map, List.length_range]
      by_cases h2 : u = n - 1
      · rw [h2, Nat.sub_self]
        constructor
        · intro e
          exact .inr ⟨by omega, (Option.some.inj e).symm⟩
        · rintro (⟨e, _⟩ | ⟨_, rfl⟩)
          · omega
          · rfl
      · rw [List.getElem?_eq_none (by rw [List.length_singleton]; omega)]
        constructor
        · intro e
          cases e
        · rintro (⟨e, _⟩ | ⟨e, _⟩) <;> omega
  constructor
  · rintro ⟨row, l, h1, h2, h3⟩
    have hl : l = 0 := by
      have := (List.getElem?_eq_some_iff.mp h3).1
      rw [List.length_singleton] at this
      omega
    subst hl
    refine ⟨(Option.some.inj h3).symm, ?_⟩
    rcases (get row).mp h1 with ⟨a, rfl⟩ | ⟨a, rfl⟩
    · exact .inl ⟨a, by simpa using h2.symm⟩
    · cases ring with
      | true => exact .inr ⟨a, rfl, by simpa using h2.symm⟩
      | false => simp at h2
  · rintro ⟨rfl, ⟨a, rfl⟩ | ⟨a, rfl, rfl⟩⟩
    · exact ⟨_, 0, (get _).mpr (.inl ⟨a, rfl⟩), rfl, rfl⟩
    · exact ⟨_, 0, (get _).mpr (.inr ⟨a, rfl⟩), rfl, rfl⟩
theorem long_len {n : Nat} {ring : Bool} (hn : 1 ≤ n) : (rsLong n ring).length = n := by
  unfold rsLong
  rw [List.length_append, List.length_map, List.length_range, List.length_singleton]
  omega
theorem long_end {n u : Nat} (hn : 1 ≤ n) : (esLong n)[u]? = some true ↔ u + 1 = n := by
  unfold esLong
  by_cases h : u < n - 1
  · rw [List.getElem?_append_left (by rw [List.length_replicate]; exact h), List.getElem?_replicate, if_pos h]
    constructor
    · intro e
      cases e
    · intro e
      omega
  · rw [List.getElem?_append_right (by rw [List.length_replicate]; omega), List.length_replicate]
    by_cases h2 : u = n - 1
    · rw [h2, Nat.sub_self]
      exact ⟨fun _ => by omega, fun _ => rfl⟩
    · rw [List.getElem?_eq_none (by rw [List.length_singleton]; omega)]
      constructor
      · intro e
        cases e
      · intro e
        omega
def dueLong (n : Nat) (ring : Bool) (own bd : Int) : Prop := (own < 1 ∨ ring = false) ∧ own * ((n : Int) - 1) ≤ bd
theorem hsLong_get {n : Nat} {own : Int} {u : Nat} {o : Option Int} : (hsLong n own)[u]? = some o ↔ u < n ∧ o = some (own * (u : Int)) := by
  unfold hsLong
  rw [List.getElem?_map]
  by_cases h : u < n
  · rw [List.getElem?_range h]
    exact ⟨fun e => ⟨h, (Option.some.inj e).symm⟩, fun ⟨_, e⟩ => by rw [e]; rfl⟩
  · rw [List.getElem?_eq_none (by rw [List.length_range]; omega)]
    constructor
    · intro e
      cases e
    · rintro ⟨a, _⟩
      exact absurd a h
theorem long_least {n : Nat} {ring : Bool} {own bd : Int} (hn : 2 ≤ n) : Valid (rsLong n ring) (esLong n) [own] bd (hsLong n own) ↔ dueLong n ring own bd := by
  have hc : ((n - 1 : Nat) : Int) = (n : Int) - 1 := by omega
  constructor
  · intro V
    have hl := (hsLong_get (n := n) (own := own) (u := n - 1) (o := some (own * ((n - 1 : Nat) : Int)))).mpr ⟨by omega, rfl⟩
    obtain ⟨h1, h2⟩ := V.2.2 _ _ hl
    refine ⟨?_, ?_⟩
    · cases ring with
      | false => exact .inr rfl
      | true =>
        left
        obtain ⟨b, hb, hab⟩ := h2 0 own ((long_edge (by omega)).mpr ⟨rfl, .inr ⟨by omega, rfl, rfl⟩⟩)
        have := (hsLong_get.mp hb).2
        cases this
        rw [hc] at hab
        have e : own * ((n : Int) - 1) + own = own * (n : Int) := by rw [Int.mul_sub]; omega
        rw [e] at hab
        refine Int.not_le.mp fun z => ?_
        have : (1 : Int) * (n : Int) ≤ own * (n : Int) := Int.mul_le_mul_of_nonneg_right z (by omega)
        have : own * ((0 : Nat) : Int) = 0 := Int.mul_zero own
        omega
    · have := h1 ((long_end (by omega)).mpr (by omega))
      rw [hc] at this
      exact this
  · rintro ⟨h1, h2⟩
    refine ⟨by rw [long_len (by omega)]; unfold hsLong; rw [List.length_map, List.length_range], ⟨own * ((0 : Nat) : Int), hsLong_get.mpr ⟨by omega, rfl⟩, by rw [show own * ((0 : Nat) : Int) = 0 from Int.mul_zero own]; exact Int.le_refl _⟩, fun u a hu => ?_⟩
    obtain ⟨ul, ua⟩ := hsLong_get.mp hu
    cases ua
    refine ⟨fun he => ?_, fun v g he => ?_⟩
    · have := (long_end (by omega)).mp he
      rw [show (u : Int) = (n : Int) - 1 by omega]
      exact h2
    · obtain ⟨rfl, ⟨a, rfl⟩ | ⟨a, hr, rfl⟩⟩ := (long_edge (by omega)).mp he
      · refine ⟨g * ((u + 1 : Nat) : Int), hsLong_get.mpr ⟨a, rfl⟩, ?_⟩
        rw [show ((u + 1 : Nat) : Int) = (u : Int) + 1 by omega, Int.mul_add, Int.mul_one]
        exact Int.le_refl _
      · refine ⟨g * ((0 : Nat) : Int), hsLong_get.mpr ⟨by omega, rfl⟩, ?_⟩
        rcases h1 with h1 | h1
        · have e : g * (u : Int) + g = g * (n : Int) := by
            rw [show (n : Int) = (u : Int) + 1 by omega, Int.mul_add, Int.mul_one]
          rw [e, show g * ((0 : Nat) : Int) = 0 from Int.mul_zero g]
          exact Int.mul_nonpos_of_nonpos_of_nonneg (by omega) (by omega)
        · rw [hr] at h1
          cases h1
theorem long_none {n : Nat} {ring : Bool} {own bd : Int} (hn : 2 ≤ n) (hd : ¬ dueLong n ring own bd) (hs : List (Option Int)) : ¬ Valid (rsLong n ring) (esLong n) [own] bd hs := by
  intro V
  obtain ⟨x, hx, hx0⟩ := V.2.1
  have up : ∀ u : Nat, u < n → ∃ a, hs[u]? = some (some a) ∧ x + own * (u : Int) ≤ a := by
    intro u
    induction u with
    | zero => intro _; exact ⟨x, hx, by rw [show own * ((0 : Nat) : Int) = 0 from Int.mul_zero own]; omega⟩
    | succ u ih =>
      intro hu
      obtain ⟨a, h1, h2⟩ := ih (by omega)
      obtain ⟨b, hb, hab⟩ := (V.2.2 u a h1).2 (u + 1) own ((long_edge (by omega)).mpr ⟨rfl, .inl ⟨hu, rfl⟩⟩)
      refine ⟨b, hb, ?_⟩
      rw [show ((u + 1 : Nat) : Int) = (u : Int) + 1 by omega, Int.mul_add, Int.mul_one]
      omega
  obtain ⟨a, h1, h2⟩ := up (n - 1) (by omega)
  rw [show ((n - 1 : Nat) : Int) = (n : Int) - 1 by omega] at h2
  obtain ⟨h3, h4⟩ := V.2.2 _ a h1
  have h5 := h3 ((long_end (by omega)).mpr (by omega))
  refine hd ⟨?_, by omega⟩
  cases ring with
  | false => exact .inr rfl
  | true =>
    left
    obtain ⟨b, hb, hab⟩ := h4 0 own ((long_edge (by omega)).mpr ⟨rfl, .inr ⟨by omega, rfl, rfl⟩⟩)
    rw [hx] at hb
    cases hb
    have e : own * ((n : Int) - 1) + own = own * (n : Int) := by rw [Int.mul_sub]; omega
    refine Int.not_le.mp fun z => ?_
    have : (1 : Int) * (n : Int) ≤ own * (n : Int) := Int.mul_le_mul_of_nonneg_right z (by omega)
    omega

/-! ### enumerate of a tuple -/
abbrev tupIt (l : Addr) : Obj := { cls := .type "tuple_iterator", data := .fields #[.ref l, .int 0 0] }
abbrev enumOb (i : Addr) : Obj := { cls := .type "enumerate", data := .fields #[.none, .bool false, .ref i, rawInt 0, .none, .none] }
theorem enum_tup_new (l : Addr) (xs : Array Value) (n : Nat) (y : Option Addr) (sl : Array (Option Value)) :
    Meets (Builtin.«enumerate.__new__» ⟨[.type "enumerate", .ref l], []⟩) (fun _ R s => s.heap.get? l = some { cls := .type "tuple", dict := y, data := .seq xs n, slots := sl } ∧
      R (.ok (.ret (.ref (s.heap.push (tupIt l)).objs.size))) { s with heap := (s.heap.push (tupIt l)).push (enumOb s.heap.objs.size) }) := by
  refine .of_wp fun prog w A R s h => ?_
  cases s
  have k1 := h.1
  have k2 := h.2
  have k3 := sub_enumerate
  have k4 : Heap.IsTuple _ l xs := ⟨_, k1, rfl, n, rfl⟩
  wp_walk using AutoSeq1.wpAny_loadPart' k1
  refine wpAny_stack_any fun st => wpAny_pure ?_
  split
  · rename_i c _ _ _ _ _
    cases (c == Value.type "enumerate") <;> (wp_walk using AutoSeq1.wpAny_loadPart' k1, wpAny_pyIter_tuple k4 <;> exact ⟨_, rfl, k2⟩)
  · wp_walk using AutoSeq1.wpAny_loadPart' k1, wpAny_pyIter_tuple k4
    exact ⟨_, rfl, k2⟩
section
variable {prog : Program} {w : World} {A : Around} {E : Value → Shared → Prop} {s : Shared}
theorem call_enum_tup {l : Addr} {xs : Array Value} {Q : Value → Shared → Prop} (hl : s.heap.IsTuple l xs)
    (fin : ∀ h2, IsEnum h2 (s.heap.objs.size + 1) s.heap.objs.size 0 .none → h2.IsTupleIter s.heap.objs.size l 0 → (∀ b o, s.heap.get? b = some o → h2.get? b = some o) → Q (.ref (s.heap.objs.size + 1)) { s with heap := h2 }) :
    wpAny (model prog w) A (call (.type "enumerate") [.ref l]) Q E s := by
  obtain ⟨⟨c, y, data, sl⟩, ho, hc, n, hd⟩ := hl
  simp only at hc hd
  cases hc
  cases hd
  have e1 : (s.heap.push (tupIt l)).objs.size = s.heap.objs.size + 1 := Heap.size_push ..
  have e2 : ((s.heap.push (tupIt l)).push (enumOb s.heap.objs.size)).get? (s.heap.objs.size + 1) = some (enumOb s.heap.objs.size) := by
    rw [← e1]
    exact Heap.get?_push_size _ rfl
  refine callType_new F.called_enumerate (by decide) (F.typeCall_enumerate_1 _) (F.newCall_enumerate_1 _) (fun obj => F.args_object_init_2 obj _) F.entry_enumerate_new (enum_tup_new l xs n y sl) ⟨ho, ?_⟩
  rw [e1]
  exact ⟨⟨_, e2, rfl⟩, fin _ e2 ⟨_, Heap.get?_push_of_some _ (Heap.get?_push_size _ rfl), rfl, rfl⟩ fun b o q => Heap.get?_push_of_some _ (Heap.get?_push_of_some _ q)⟩
end
/-- the tuple at a, each item in a new pair behind its number -/
def ItT (K : PySem.W.Frag) (a : Addr) : It :=
  ⟨fun i H => ∃ (xs : List V) (x : V), SqT K H a xs ∧ xs[i]? = some x,
    fun i H v H' => ∃ T x, v = .ref T ∧ H T = none ∧ H' = upd H T (.tup [.int (i : Nat), x]) ∧ ∀ xs, SqT K H a xs → xs[i]? = some x,
    fun i H => ∃ xs : List V, SqT K H a xs ∧ xs.length ≤ i⟩
theorem turn_enumT {P : Program} {w : World} {K : PySem.W.Frag} {elts : List Expr} {kk : Nat} {tpos : Pos} (a e it : Addr) :
    Turn P w K (.Tuple elts kk tpos) (ItT K a) [e, it] e (fun i h => (∃ old, IsEnum h e it ((i : Nat) : Int) old) ∧ h.IsTupleIter it a i ∧ e ≠ it) where
  mem := List.mem_cons_self
  obj := fun i h st b hb => by
    obtain ⟨⟨old, he⟩, ⟨o, ho, hc, hd⟩, _⟩ := st
    rcases List.mem_cons.mp hb with z | z
    · subst z
      exact ⟨_, he, fun v q => nomatch q⟩
    · rw [List.mem_singleton.mp z]
      refine ⟨o, ho, fun v q => ?_⟩
      rw [hd] at q
      cases q
  keep := fun i h h2 st k => ⟨st.1.imp fun old he => k e List.mem_cons_self _ he, st.2.1.at fun o q => k it (List.mem_cons_of_mem _ (List.mem_singleton.mpr rfl)) o q, st.2.2⟩
  item := by
    intro X hP hw hK hc i pins s σ H E I hf st hg
    cases hP
    cases hw
    cases hK
    obtain ⟨⟨old, he⟩, hit, hne⟩ := st
    obtain ⟨xs, x, hq, hx⟩ := hg
    obtain ⟨its, rv, p, hz⟩ := I.tuple hq
    obtain ⟨u, hu, ru⟩ := rv.get hx
    have lt1 : e < s.heap.objs.size := Heap.lt_size he
    have lt2 : it < s.heap.objs.size := by
      obtain ⟨_, q, _⟩ := id hit
      exact Heap.lt_size q
    have pT : s.heap.IsTuple a its.toArray := p
    have nea : e ≠ a := fun z => by
      obtain ⟨o, q1, q2, _⟩ := id pT
      rw [← z] at q1
      cases (he.symm.trans q1)
      exact absurd (Value.type.inj q2) (by decide)
    have nia : a ≠ it := fun z => by
      obtain ⟨o, q1, q2, _⟩ := id pT
      obtain ⟨o2, q3, q4, _⟩ := id hit
      rw [z] at q1
      cases (q1.symm.trans q3)
      rw [q2] at q4
      exact absurd (Value.type.inj q4) (by decide)
    have no : e ∉ [it, a] := fun z => by
      rcases List.mem_cons.mp z with z | z
      · exact hne z
      · exact nea (List.mem_singleton.mp z)
    have hlt : i < its.toArray.size := by
      rw [List.size_toArray, ← rv.length]
      exact (List.getElem?_eq_some_iff.mp hx).1
    refine wpAny_pyNext_enum_itemD (Draws.tuple (by rw [show X.A.in1.handled = X.A.handled from rfl]; exact I.ok.hd hc) it a nia its.toArray) he ⟨hit, pT⟩ hlt hne no fun v h2 tk hv ho st2 hT hsz hk => ?_
    have ev : v = u := by
      have q1 : its.toArray[i]? = some u := by simpa using hu
      rw [q1] at hv
      exact (Option.some.inj hv).symm
    cases ev
    refine ⟨_, rfl, wpAny_letOwnedTupleGo_enum (s := { s with heap := h2, toks := tk + 1 }) ho fun h3 he3 sb => ?_⟩
    have hT3 : h3.get? s.heap.objs.size = some { cls := .type "tuple", data := .seq #[.int i tk, u] } := (sb.2 _ (Nat.ne_of_gt lt1)).trans hT
    have new : ObjOk X.prog X.w (upd H s.heap.objs.size (.tup [.int (i : Nat), x])) h3 s.heap.objs.size (.tup [.int (i : Nat), x]) := ⟨by show 2 ≤ sizeLine; decide, [.int i tk, u], .cons ⟨_, rfl⟩ (.cons ru .nil), ⟨_, hT3, rfl, _, rfl⟩⟩
    have mem1 : ∀ {b : Addr}, b ∉ [e, it] → b ≠ e ∧ b ≠ it := fun h => ⟨fun z => h (z ▸ List.mem_cons_self), fun z => h (z ▸ List.mem_cons_of_mem _ (List.mem_singleton.mpr rfl))⟩
    have I1 : Inv X pins σ (upd H s.heap.objs.size (.tup [.int (i : Nat), x])) { s with heap := h3, toks := tk + 1 } :=
      I.turnedNew (ch := [e, it]) (fun b ob hb q => (sb.2 b (mem1 hb).1).trans (hk b ob (mem1 hb).1 (mem1 hb).2 q)) hf (Nat.le_refl _) new
    refine ⟨.ref s.heap.objs.size, _, I1, rfl, ⟨_, x, rfl, I.hok.fresh (Nat.le_refl _), rfl, fun ys hy => by rw [I.tuple_inj hy hq]; exact hx⟩, ⟨⟨u, ?_⟩, st2.1.at fun o q => (sb.2 it (Ne.symm hne)).trans q, hne⟩, fun b hb => ?_⟩
    · rw [show ((i + 1 : Nat) : Int) = (i : Int) + 1 from by omega]
      exact he3
    · rw [upd_ne]
      · exact (hf b hb).1
      · rcases List.mem_cons.mp hb with z | z
        · rw [z]
          exact Nat.ne_of_lt lt1
        · rw [List.mem_singleton.mp z]
          exact Nat.ne_of_lt lt2
  done := by
    intro X hP hw hK hc i pins s σ H E I hf st hg
    cases hP
    cases hw
    cases hK
    obtain ⟨⟨old, he⟩, hit, hne⟩ := st
    obtain ⟨xs, hq, hx⟩ := hg
    obtain ⟨its, rv, p, hz⟩ := I.tuple hq
    obtain ⟨f0, f1, f2, f3, f4, f5⟩ := hf it (List.mem_cons_of_mem _ (List.mem_singleton.mpr rfl))
    have pT : s.heap.IsTuple a its.toArray := p
    have hl := rv.length
    have D : Draws X.prog X.w X.A.in1 it [it, a] i (fun _ _ => False) (fun j h => j = i ∧ h.IsTupleIter it a i ∧ h.IsTuple a its.toArray) := {
      live := fun _ _ st => let ⟨o, ho, _⟩ := st.2.1; ⟨o, ho⟩
      frame := fun _ _ _ st hk => ⟨st.1, st.2.1.at fun o e => hk it List.mem_cons_self o e, st.2.2.at fun o e => hk a (List.mem_cons_of_mem _ (List.mem_singleton.mpr rfl)) o e⟩
      item := fun j s Q E hj st _ => absurd st.1 (Nat.ne_of_lt hj)
      done := fun s Q E st hE => wpAny_nextOf_tuple_end (I.ok.hd hc) st.2.1 st.2.2 (by rw [List.getElem?_toArray]; exact List.getElem?_eq_none (by omega)) hE }
    exact wpAny_pyNext_enum_endD D he ⟨rfl, hit, pT⟩ fun h2 eb => ⟨rfl, I.turned (t' := s.toks) (fun b o hb q => eb b o hb q) f0 f1 f3 f4 f5⟩
  self := fun A i s Q E st h => wpAny_pyIter_enum st.1.choose_spec h
def iEnumT (K : PySem.W.Frag) (ta : TA) : TI := fun σ H R => ta σ H fun vs H1 => ∃ a xs, vs = [.ref a] ∧ SqT K H1 a xs ∧ R (ItT K a) H1
theorem pi_enumT {X : Cx} {e : Expr} {ta : TA} {p pos tpos : Pos} {elts : List Expr} {kk : Nat} (g : Gl X "enumerate") (m : X.mg "enumerate" = none) (ha : PA X [e] ta) (hs : starEach [e] X.env = [(false, eval e X.env)] := by rfl) :
    PI X (.Tuple elts kk tpos) (.Call (.Name "enumerate" p) [e] [] pos) (iEnumT X.K ta) := by
  refine ⟨fun pins s σ H R I h => Call_ (ld_blt I g m boot_enumerate (PyProof.Rows.callWith_type1 (thn (ha.run pos pins s σ H _ I h) fun us s1 w => ?_) hs rfl))⟩
  obtain ⟨vs, H1, I1, r1, a, xs, rfl, hq, k⟩ := w
  cases r1 with
  | cons r rr =>
    cases rr
    cases r
    obtain ⟨its, rv, pl, _⟩ := I1.tuple hq
    refine call_enum_tup (show s1.heap.IsTuple a its.toArray from pl) fun h2 he hit hk => wpAny_pyIter_enum he ?_
    have I2 : Inv X pins σ H1 { s1 with heap := h2 } := I1.kept (t' := s1.toks) hk
    refine ⟨s1.heap.objs.size + 1, [s1.heap.objs.size + 1, s1.heap.objs.size], _, _, H1, rfl, I2, turn_enumT a _ s1.heap.objs.size, ⟨⟨.none, he⟩, hit, Nat.succ_ne_self _⟩, fun b hb => ?_, k⟩
    have le : s1.heap.objs.size ≤ b := by
      rcases List.mem_cons.mp hb with z | z
      · rw [z]
        exact Nat.le_add_right _ _
      · exact Nat.le_of_eq (List.mem_singleton.mp z).symm
    exact I1.fpOk le (I1.hok.fresh le)
theorem walk_enumT {K : PySem.W.Frag} {a : Addr} {xs : List V} : Walk (ItT K a) xs.length (fun H => SqT K H a xs) (YPair (fun i => some (.int (i : Nat))) (fun i => xs[i]?)) := by
  refine ⟨fun i _ hi q => ⟨xs, xs[i], q, List.getElem?_eq_getElem hi⟩, fun _ q => ⟨xs, q, Nat.le_refl _⟩, fun i H v H' _ q y => ?_⟩
  obtain ⟨T, x, h1, h2, h3, h4⟩ := y
  exact ⟨T, .int (i : Nat), x, h1, h2, h3, rfl, h4 xs q⟩
theorem all_take' {α : Type} {f : α → Bool} {ds : List α} : ((ds.map f).all id) = ds.all f := by
  rw [List.all_map]
  rfl
/-! ### machines, forms, heights as data -/
def natV (n : Nat) : V := .int (n : Int)
def oV : Option Nat → V
  | none => .non
  | some k => .int (k : Int)
def oD : Option Nat → PyData
  | none => .none
  | some k => .int (k : Int)
def hV : Option Int → V
  | none => .non
  | some k => .int k
def hD : Option Int → PyData
  | none => .none
  | some k => .int k
def rowDt (row : List (Option Nat)) : PyData := .tuple (row.map oD)
def machDt (L : Nat) (rs : Rows) (es : List Bool) : PyData := .tuple [.int (L : Int), .tuple (rs.map rowDt), .tuple (es.map .bool)]
def formDt (f : List Int) : PyData := .tuple (f.map .int)
def hsDt (hs : List (Option Int)) : PyData := .tuple (hs.map hD)
structure MOk (L : Nat) (rs : Rows) (es : List Bool) : Prop where
  l1 : 1 ≤ rs.length
  l400 : rs.length ≤ 400
  row : ∀ row ∈ rs, row.length = L
  tgt : ∀ row ∈ rs, ∀ v, some v ∈ row → v < rs.length
  es : es.length = rs.length
  L1 : 1 ≤ L
  L3 : L ≤ 3
theorem MOk.reach_lt {L : Nat} {rs : Rows} {es : List Bool} (M : MOk L rs es) : ∀ u, Reach rs u → u < rs.length := by
  intro u r
  cases r with
  | z => exact M.l1
  | s r h1 h2 => exact M.tgt _ (List.mem_of_getElem? h1) _ (List.mem_of_getElem? h2)
section
variable {B : Addr → Prop} {K : PySem.W.Frag} {H H' : Hp}
theorem dt_sc {α : Type} {fD : α → PyData} {fV : α → V} (h1 : ∀ x v, Dt B K H v (fD x) → v = fV x) : ∀ {xs : List α} {vs : List V}, DtAll B K H vs (xs.map fD) → vs = xs.map fV
  | [], _, h => by cases h; rfl
  | x :: xs, _, h => by
    cases h with
    | cons a b => rw [h1 _ _ a, dt_sc h1 b]; rfl
theorem dt_cs {α : Type} {fD : α → PyData} {fV : α → V} (h1 : ∀ x, Dt B K H (fV x) (fD x)) : ∀ xs : List α, DtAll B K H (xs.map fV) (xs.map fD)
  | [] => .nil
  | x :: xs => .cons (h1 x) (dt_cs h1 xs)
theorem o_sc (x : Option Nat) (v : V) (h : Dt B K H v (oD x)) : v = oV x := by
  cases x with
  | none => cases h; rfl
  | some k => cases h; rfl
theorem o_cs (x : Option Nat) : Dt B K H (oV x) (oD x) := by
  cases x with
  | none => exact .non
  | some k => exact .int _
theorem h_sc (x : Option Int) (v : V) (h : Dt B K H v (hD x)) : v = hV x := by
  cases x with
  | none => cases h; rfl
  | some k => cases h; rfl
theorem h_cs (x : Option Int) : Dt B K H (hV x) (hD x) := by
  cases x with
  | none => exact .non
  | some k => exact .int _
theorem i_sc (x : Int) (v : V) (h : Dt B K H v (.int x)) : v = .int x := by cases h; rfl
theorem b_sc (x : Bool) (v : V) (h : Dt B K H v (.bool x)) : v = .bl x := by cases h; rfl
/-- a machine as it lies -/
structure MA (H : Hp) (L : Nat) (rs : Rows) (es : List Bool) (m pr pe : Addr) (rvs : List V) : Prop where
  hm : Rd H m (.tup [.int (L : Int), .ref pr, .ref pe])
  hr : Rd H pr (.tup rvs)
  hl : rvs.length = rs.length
  row : ∀ (u : Nat) (row : List (Option Nat)), rs[u]? = some row → ∃ q, rvs[u]? = some (.ref q) ∧ Rd H q (.tup (row.map oV))
  he : Rd H pe (.tup (es.map V.bl))
theorem MA.same {L : Nat} {rs : Rows} {es : List Bool} {m pr pe : Addr} {rvs : List V} (s : Same H H') (M : MA H L rs es m pr pe rvs) : MA H' L rs es m pr pe rvs :=
  ⟨same_rd s M.hm, same_rd s M.hr, M.hl, fun u row h => let ⟨q, h1, h2⟩ := M.row u row h; ⟨q, h1, same_rd s h2⟩, same_rd s M.he⟩
theorem dt_mach {L : Nat} {rs : Rows} {es : List Bool} {v : V} (h : Dt B K H v (machDt L rs es)) : ∃ m pr pe rvs, v = .ref m ∧ ¬ B m ∧ MA H L rs es m pr pe rvs := by
  obtain ⟨m, xs, rfl, nm, hm, ha, _⟩ := h.tup_rd
  cases ha with
  | cons h1 ha =>
    cases ha with
    | cons h2 ha =>
      cases ha with
      | cons h3 ha =>
        cases ha
        cases h1
        obtain ⟨pr, rvs, rfl, _, hr, har, hl⟩ := h2.tup_rd
        obtain ⟨pe, evs, rfl, _, he, hae, _⟩ := h3.tup_rd
        rw [dt_sc b_sc hae] at he
        refine ⟨m, pr, pe, rvs, rfl, nm, hm, hr, by rw [hl, List.length_map], fun u row hu => ?_, he⟩
        obtain ⟨v, hv, hd⟩ := har.get (i := u) (d := rowDt row) (by rw [List.getElem?_map, hu]; rfl)
        obtain ⟨q, ys, rfl, _, hq, hay, _⟩ := hd.tup_rd
        rw [dt_sc o_sc hay] at hq
        exact ⟨q, hv, hq⟩
theorem dt_form {f : List Int} {v : V} (h : Dt B K H v (formDt f)) : ∃ p, v = .ref p ∧ ¬ B p ∧ Rd H p (.tup (f.map V.int)) := by
  obtain ⟨p, xs, rfl, np, hp, ha, _⟩ := h.tup_rd
  rw [dt_sc i_sc ha] at hp
  exact ⟨p, rfl, np, hp⟩
end
/-- what lies elsewhere stays where a dict alone is written -/
theorem rd_dict {H H' : Hp} {d a : Addr} {xs : List V} {kvs : List (Key × V)} (k : Keep (fun b => b = d) H H') (hd : H d = some (.dK kvs)) (h : Rd H a (.tup xs)) : Rd H' a (.tup xs) := by
  refine k.rd (fun z => ?_) h
  rw [z] at h
  rcases h with h | ⟨o, h⟩
  · rw [hd] at h
    cases h
  · rw [hd] at h
    cases h
theorem nodup_len {n : Nat} {xs : List Nat} (hn : xs.Nodup) (hlt : ∀ x ∈ xs, x < n) : xs.length ≤ n := by
  refine Nat.le_of_not_lt fun hl => ?_
  obtain ⟨a, b, h1, h2, h3⟩ := pigeon (List.range n) (fun k => xs.getD k 0) (fun k hk => by
    rw [List.length_range] at hk
    have hk2 : k < xs.length := by omega
    have e : xs.getD k 0 = xs[k] := by rw [List.getD_eq_getElem?_getD, List.getElem?_eq_getElem hk2]; rfl
    rw [e]
    exact List.mem_range.mpr (hlt _ (List.getElem_mem hk2)))
  rw [List.length_range] at h2
  have ha : a < xs.length := by omega
  have hb : b < xs.length := by omega
  have ea : xs.getD a 0 = xs[a] := by rw [List.getD_eq_getElem?_getD, List.getElem?_eq_getElem ha]; rfl
  have eb : xs.getD b 0 = xs[b] := by rw [List.getD_eq_getElem?_getD, List.getElem?_eq_getElem hb]; rfl
  rw [ea, eb] at h3
  exact absurd h3 (List.pairwise_iff_getElem.mp hn a b ha hb h1)
/-! ### reached -/
def knB (n : Nat) (ord : List Nat) : List V := (List.range n).map fun u => V.bl (decide (u ∈ ord))
theorem knB_get {n : Nat} {ord : List Nat} {u : Nat} (h : u < n) : (knB n ord)[u]? = some (.bl (decide (u ∈ ord))) := by
  unfold knB
  rw [List.getElem?_map, List.getElem?_range h]
  rfl
theorem knB_len {n : Nat} {ord : List Nat} : (knB n ord).length = n := by
  unfold knB
  rw [List.length_map, List.length_range]
theorem knB_set {n : Nat} {ord : List Nat} {v : Nat} : (knB n ord).set v (.bl true) = knB n (ord ++ [v]) := by
  refine List.ext_getElem? fun u => ?_
  rw [List.getElem?_set, knB_len]
  by_cases hu : u < n
  · rw [knB_get hu, knB_get hu]
    by_cases e : v = u
    · subst e
      rw [if_pos rfl, if_pos hu, decide_eq_true (by simp)]
    · rw [if_neg e]
      congr 2
      have : (u ∈ ord ++ [v]) ↔ u ∈ ord := by
        rw [List.mem_append, List.mem_singleton]
        exact ⟨fun h => h.elim id fun z => absurd z.symm e, .inl⟩
      rw [Bool.eq_iff_iff, decide_eq_true_iff, decide_eq_true_iff, this]
  · have h1 : (knB n ord)[u]? = none := List.getElem?_eq_none (by rw [knB_len]; omega)
    have h2 : (knB n (ord ++ [v]))[u]? = none := List.getElem?_eq_none (by rw [knB_len]; omega)
    rw [h1, h2]
    by_cases e : v = u
    · rw [if_pos e]
      rw [if_neg (by omega)]
    · rw [if_neg e]
theorem natV_get {ord : List Nat} {i u : Nat} (h : ord[i]? = some u) : (ord.map natV)[i]? = some (.int (u : Int)) := by
  rw [List.getElem?_map, h]
  rfl
theorem natV_of {ord : List Nat} {i : Nat} {v : V} (h : (ord.map natV)[i]? = some v) : ∃ u : Nat, ord[i]? = some u ∧ v = .int (u : Int) := by
  rw [List.getElem?_map] at h
  obtain ⟨u, h1, h2⟩ := Option.map_eq_some_iff.mp h
  exact ⟨u, h1, h2.symm⟩
/-- what is known of the states that were come to -/
structure ROrd (rs : Rows) (i : Nat) (ord : List Nat) : Prop where
  nd : ord.Nodup
  zero : 0 ∈ ord
  rch : ∀ u ∈ ord, Reach rs u
  cl : ∀ k, k < i → ∀ u, ord[k]? = some u → ∀ (row : List (Option Nat)) v, rs[u]? = some row → some v ∈ row → v ∈ ord
  le : i ≤ ord.length
theorem ROrd.push {rs : Rows} {i : Nat} {ord : List Nat} {v : Nat} (R : ROrd rs i ord) (hn : v ∉ ord) (hv : Reach rs v) : ROrd rs i (ord ++ [v]) where
  nd := List.nodup_append.mpr ⟨R.nd, by simp, fun a ha b hb e => hn (by rw [List.mem_singleton.mp hb] at e; exact e ▸ ha)⟩
  zero := List.mem_append_left _ R.zero
  rch := fun u hu => (List.mem_append.mp hu).elim (R.rch u) fun z => by rw [List.mem_singleton.mp z]; exact hv
  cl := fun k hk u hu row w hr hw => List.mem_append_left _ (R.cl k hk u (by rw [List.getElem?_append_left (by have := R.le; omega)] at hu; exact hu) row w hr hw)
  le := by
    rw [List.length_append]
    have := R.le
    omega
theorem ROrd.next {rs : Rows} {i u : Nat} {ord : List Nat} {row : List (Option Nat)} (R : ROrd rs i ord) (hu : ord[i]? = some u) (hr : rs[u]? = some row) (h : ∀ v, some v ∈ row → v ∈ ord) : ROrd rs (i + 1) ord where
  nd := R.nd
  zero := R.zero
  rch := R.rch
  cl := fun k hk w hw row' v hr' hv => by
    by_cases e : k = i
    · subst e
      rw [hu] at hw
      cases hw
      rw [hr] at hr'
      cases hr'
      exact h v hv
    · exact R.cl k (by omega) w hw row' v hr' hv
  le := by
    have := (List.getElem?_eq_some_iff.mp hu).1
    omega
theorem ROrd.isOrd {L : Nat} {rs : Rows} {es : List Bool} {i : Nat} {ord : List Nat} (M : MOk L rs es) (R : ROrd rs i ord) (hi : ord.length ≤ i) : IsOrd rs ord where
  mem := fun u => ⟨R.rch u, fun r => by
    induction r with
    | z => exact R.zero
    | s r h1 h2 ih =>
      obtain ⟨k, hk⟩ := List.getElem?_of_mem ih
      have hl := (List.getElem?_eq_some_iff.mp hk).1
      exact R.cl k (by omega) _ hk _ _ h1 (List.mem_of_getElem? h2)⟩
  lt := fun u hu => M.reach_lt u (R.rch u hu)
  len := nodup_len R.nd fun u hu => M.reach_lt u (R.rch u hu)
  nd := R.nd
theorem ROrd.len {L : Nat} {rs : Rows} {es : List Bool} {i : Nat} {ord : List Nat} (M : MOk L rs es) (R : ROrd rs i ord) : ord.length ≤ rs.length := nodup_len R.nd fun u hu => M.reach_lt u (R.rch u hu)
theorem rord0 {rs : Rows} : ROrd rs 0 [0] where
  nd := by simp
  zero := by simp
  rch := fun u hu => by rw [List.mem_singleton.mp hu]; exact .z
  cl := fun k hk => absurd hk (Nat.not_lt_zero _)
  le := Nat.zero_le _
section
variable {P : Program} {w : World} {K : PySem.W.Frag} {mg : Str → Option Value} {base : Heap}
theorem scReached : FnScope ["rows", "order", "known", "at", "state", "target"] ["rows"] (defScope sReached) := ⟨rfl, rfl, rfl, by decide +kernel, rfl, by decide +kernel, by decide +kernel⟩
def spReached : Sp := fun vs H Q _ => ∃ (L : Nat) (rs : Rows) (es : List Bool) (m pr pe : Addr) (rvs : List V), vs = [.ref pr] ∧ MOk L rs es ∧ MA H L rs es m pr pe rvs ∧
  ∀ (H' : Hp) (p : Addr) (ord : List Nat), Same H H' → H p = none → H' p = some (.lst (ord.map natV)) → IsOrd rs ord → Q (.ref p) H'
theorem ok_reached {f : Addr} {fd : FuncData} (F : Fun K "reached" "reached" sReached f fd) (T : Mg mg) : FnOk P w K mg base CX0 1 f fd ["rows"] spReached := by
  refine F.ok scReached (fun vs H Q E h => ?_) (fun cdv A outer s H vs Q E hr h => ?_)
  · obtain ⟨L, rs, es, m, pr, pe, rvs, rfl, _⟩ := h
    rfl
  · obtain ⟨L, rs, es, m, pr, pe, rvs, rfl, M, MM, k⟩ := h
    refine ⟨_, pss_cons (ps_set (i := 1) scReached.nd rfl (.inl rfl) (pe_lst (pa_cons pe_int pa_nil)))
      (pss_cons (ps_set (i := 2) scReached.nd rfl (.inl rfl) (pe_op op_rep (pe_lst (pa_cons pe_bl pa_nil)) (pe_callB (r := rLen K) call_len_seq (by rfl) T.len PySem.boot_len (pa_cons (pv 0) pa_nil))))
      (pss_cons (ps_asg pe_bl (pg_sub (pv 2) pe_int set_list))
      (pss_cons (ps_set (i := 3) scReached.nd rfl (.inl rfl) pe_int)
      (pss_cons (ps_while PassesOwn.never (pt_cmpR op_lt (pv 3) (pe_callB (r := rLen K) call_len_seq (by rfl) T.len PySem.boot_len (pa_cons (pv 1) pa_nil)) (nomark _))
        (pss_cons (ps_set (i := 4) scReached.nd rfl (.inl rfl) (pe_ix ix_list (pv 1) (pv 3) (fun _ _ => rfl)))
        (pss_cons (ps_for PassesOwn.never rfl (pi_tup (pe_ix (r := rIxT K) ix_tup (pv 0) (pv 4) (fun _ _ => rfl))) (pg_name (i := 5) scReached.nd rfl (.inl rfl))
          (pss_one (ps_if (PW.pt (pw_and (pt_cmp (pc_notN (pv 5))) (pw_and1 (pt_not (pt_val (pe_ix ix_list (pv 2) (pv 5) (fun _ _ => rfl)))))))
            (pss_cons (ps_asg pe_bl (pg_sub (pv 2) (pv 5) set_list)) (pss_one (ps_expr (pe_bm PySem.F.plainAttrs_list PySem.F.slot_list_append PySem.F.type_list_append mt_append (pv 1) (pa_cons (pv 5) pa_nil)))))
            pss_nil)))
        (pss_one (ps_aug (i := 3) scReached.nd rfl (.inl rfl) pe_int ip_add)))))
      (pss_one (ps_ret (pv 1))))))), ?_⟩
    refine ⟨by show 1 ≤ sizeLine; decide, fun o ho => ?_⟩
    refine ⟨by show 1 ≤ sizeLine; decide, fun t ht => ?_⟩
    have s1 := same_new (o := .lst [.int 0]) ho
    have s2 := same_new (o := .lst [.bl false]) ht
    have M1 := MM.same (s1.trans s2)
    refine ⟨_, rfl, pr, rvs, rfl, .inr (.inl M1.hr), ?_⟩
    have hlen := MM.hl
    have l1 := M.l1
    have l4 := M.l400
    refine ⟨t, (rvs.length : Int), [V.bl false], rfl, rfl, upd_same, by omega, by omega, sz_of (by rw [List.length_singleton]; omega), fun kn hk => ?_⟩
    refine ⟨.ref kn, rfl, kn, _, 0, 0, rfl, rfl, upd_same, ?_, ?_⟩
    · unfold ixN
      rw [if_pos (by omega), if_pos]
      · rfl
      · simp
        omega
    have ek : ((List.replicate (rvs.length : Int).toNat [V.bl false]).flatten).set 0 (.bl true) = knB rs.length [0] := by
      have e0 : (List.replicate (rvs.length : Int).toNat [V.bl false]).flatten = knB rs.length [] := by
        refine List.ext_getElem? fun u => ?_
        rw [show (List.replicate (rvs.length : Int).toNat [V.bl false]).flatten = List.replicate rs.length (V.bl false) by rw [hlen]; simp]
        by_cases hu : u < rs.length
        · rw [knB_get hu, List.getElem?_replicate, if_pos hu]
          rfl
        · rw [List.getElem?_eq_none (by rw [List.length_replicate]; omega), List.getElem?_eq_none (by rw [knB_len]; omega)]
      rw [e0]
      exact knB_set
    rw [ek]
    have s3 := same_new (o := .lst (List.replicate (rvs.length : Int).toNat [V.bl false]).flatten) hk
    have nko : kn ≠ o := fun z => by
      rw [z, s2 _ _ upd_same] at hk
      cases hk
    have hG : ∃ G, G = upd (upd (upd (upd H o (.lst [.int 0])) t (.lst [.bl false])) kn (.lst (List.replicate (rvs.length : Int).toNat [V.bl false]).flatten)) kn (.lst (knB rs.length [0])) := ⟨_, rfl⟩
    obtain ⟨G, hG⟩ := hG
    rw [← hG]
    have sG : Same H G := fun b u e => by
      have e3 := s3 _ _ (s2 _ _ (s1 _ _ e))
      rw [hG]
      have : b ≠ kn := fun z => by
        rw [z] at e
        have := s2 _ _ (s1 _ _ e)
        rw [hk] at this
        cases this
      rw [upd_ne this]
      exact e3
    have gO : G o = some (.lst ([0].map natV)) := by
      rw [hG, upd_ne nko.symm]
      exact s3 _ _ (s2 _ _ upd_same)
    have gK : G kn = some (.lst (knB rs.length [0])) := by rw [hG, upd_same]
    have kn0 : H kn = none := by
      cases z : H kn with
      | none => rfl
      | some u =>
        have := s2 _ _ (s1 _ _ z)
        rw [hk] at this
        cases this
    clear hG ek
    have pushH : ∀ {H1 : Hp} {ord : List Nat} {v : Nat}, Same H H1 → H1 o = some (.lst (ord.map natV)) → H1 kn = some (.lst (knB rs.length ord)) →
        Same H (upd (upd H1 kn (.lst (knB rs.length (ord ++ [v])))) o (.lst (ord.map natV ++ [V.int (v : Int)]))) ∧ (upd (upd H1 kn (.lst (knB rs.length (ord ++ [v])))) o (.lst (ord.map natV ++ [V.int (v : Int)]))) o = some (.lst ((ord ++ [v]).map natV)) ∧
        (upd (upd H1 kn (.lst (knB rs.length (ord ++ [v])))) o (.lst (ord.map natV ++ [V.int (v : Int)]))) kn = some (.lst (knB rs.length (ord ++ [v]))) := by
      intro H1 ord v sm h1 h2
      refine ⟨fun b u e => ?_, by rw [upd_same, List.map_append]; rfl, by rw [upd_ne nko, upd_same]⟩
      rw [upd_ne (ne_of_none e ho), upd_ne (ne_of_none e kn0)]
      exact sm b u e
    refine while_by (fun σ H' => ∃ (i : Nat) (ord : List Nat) (y4 y5 : Option V), σ = [some (.ref pr), some (.ref o), some (.ref kn), some (.int (i : Int)), y4, y5] ∧ Same H H' ∧ H' o = some (.lst (ord.map natV)) ∧ H' kn = some (.lst (knB rs.length ord)) ∧ ROrd rs i ord)
      (fun (σ : List (Option V)) (_ : Hp) => match σ[3]? with
        | some (some (V.int i)) => 401 - i.toNat
        | _ => 0) ⟨0, [0], none, none, rfl, sG, gO, gK, rord0⟩ ?_ ?_
    · rintro σ H1 ⟨i, ord, y4, y5, rfl, sm, h1, h2, R⟩
      have hol := R.len M
      refine ⟨_, rfl, _, rfl, o, _, rfl, .inl (SqL.of h1), _, _, rfl, rfl, _, rfl, ite2 (fun hlt => ?_) fun hlt => ?_⟩
      · have hlt := of_decide_eq_true hlt
        rw [List.length_map] at hlt
        have hi : i < ord.length := by omega
        have hu : ord[i]? = some ord[i] := List.getElem?_eq_getElem hi
        have hmu := List.getElem_mem hi
        generalize ord[i] = u at *
        have hun := M.reach_lt u (R.rch u hmu)
        have hrow : rs[u]? = some rs[u] := List.getElem?_eq_getElem hun
        have hmr := List.getElem_mem hun
        generalize rs[u] = row at *
        have MM1 := MM.same sm
        obtain ⟨q, hq1, hq2⟩ := MM1.row u row hrow
        refine ⟨_, rfl, _, rfl, o, _, (i : Int), _, rfl, rfl, SqL.of h1, atI_nat (natV_get hu), ?_⟩
        refine ⟨_, rfl, _, rfl, pr, rvs, (u : Int), _, rfl, rfl, .inl MM1.hr, atI_nat hq1, q, rfl, ⟨_, .inl hq2⟩, ?_⟩
        refine for_tup (K := K) (a := q) (xs := row.map oV) (fun j σ H' => (∃ y5, σ = [some (.ref pr), some (.ref o), some (.ref kn), some (.int (i : Int)), some (.int (u : Int)), y5]) ∧ Same H H' ∧ (∀ {a : Addr} {xs : List V}, Rd H1 a (.tup xs) → Rd H' a (.tup xs)) ∧ ∃ ord', H' o = some (.lst (ord'.map natV)) ∧ H' kn = some (.lst (knB rs.length ord')) ∧ ROrd rs i ord' ∧ ord'[i]? = some u ∧ ∀ k, k < j → ∀ v, row[k]? = some (some v) → v ∈ ord')
          ⟨⟨_, rfl⟩, sm, fun h => h, ord, h1, h2, R, hu, fun k hk => absurd hk (Nat.not_lt_zero _)⟩ (fun j σ H' _ p => .inl (p.2.2.1 hq2)) ?_ ?_
        · rintro j x σ H2 hx ⟨⟨y5, rfl⟩, sm2, rdk, ord', g1, g2, R', hu', hall⟩
          rw [List.getElem?_map] at hx
          obtain ⟨tg, hj, rfl⟩ := Option.map_eq_some_iff.mp hx
          refine ⟨_, rfl, _, rfl, ?_⟩
          cases tg with
          | none =>
            refine ⟨⟨_, rfl⟩, sm2, rdk, ord', g1, g2, R', hu', fun k hk v hv => ?_⟩
            by_cases e : k = j
            · rw [e, hj] at hv
              cases hv
            · exact hall k (by omega) v hv
          | some v =>
            have hvn := M.tgt row hmr v (List.mem_of_getElem? hj)
            have hrv : Reach rs v := .s (R'.rch u (List.mem_of_getElem? hu')) hrow hj
            refine ⟨_, rfl, _, rfl, kn, _, (v : Int), _, rfl, rfl, SqL.of g2, atI_nat (knB_get hvn), _, rfl, ?_⟩
            by_cases hin : v ∈ ord'
            · rw [decide_eq_true hin]
              refine ⟨⟨_, rfl⟩, sm2, rdk, ord', g1, g2, R', hu', fun k hk w hw => ?_⟩
              by_cases e : k = j
              · rw [e, hj] at hw
                cases hw
                exact hin
              · exact hall k (by omega) w hw
            · rw [decide_eq_false hin]
              refine ⟨_, rfl, _, rfl, kn, _, (v : Int), v, rfl, rfl, g2, Evl.ixN_nat (by rw [knB_len]; exact hvn), ?_⟩
              rw [knB_set]
              have g1' : (upd H2 kn (.lst (knB rs.length (ord' ++ [v])))) o = some (.lst (ord'.map natV)) := by
                rw [upd_ne nko.symm]
                exact g1
              have hol2 := (R'.push hin hrv).len M
              rw [List.length_append, List.length_singleton] at hol2
              refine ⟨_, rfl, .inl ⟨rfl, _, SqL.of g1'⟩, _, rfl, o, _, _, rfl, rfl, g1', small1000 (by rw [List.length_map]; omega), ?_⟩
              obtain ⟨q1, q2, q3⟩ := pushH (v := v) sm2 g1 g2
              refine ⟨⟨_, rfl⟩, q1, fun {a} {xs} h => ?_, ord' ++ [v], q2, q3, R'.push hin hrv, ?_, fun k hk w hw => ?_⟩
              · have h' := rdk h
                have na : a ≠ o := fun z => by
                  rw [z] at h'
                  rcases h' with h' | ⟨_, h'⟩ <;> (rw [g1] at h'; cases h')
                have nb : a ≠ kn := fun z => by
                  rw [z] at h'
                  rcases h' with h' | ⟨_, h'⟩ <;> (rw [g2] at h'; cases h')
                rcases h' with h' | ⟨ob, h'⟩
                · exact .inl (by rw [upd_ne na, upd_ne nb]; exact h')
                · exact .inr ⟨ob, by rw [upd_ne na, upd_ne nb]; exact h'⟩
              · rw [List.getElem?_append_left (List.getElem?_eq_some_iff.mp hu').1]
                exact hu'
              · by_cases e : k = j
                · rw [e, hj] at hw
                  cases hw
                  exact List.mem_append_right _ (List.mem_singleton.mpr rfl)
                · exact List.mem_append_left _ (hall k (by omega) w hw)
        · rintro σ H2 ⟨⟨y5, rfl⟩, sm2, rdk, ord', g1, g2, R', hu', hall⟩
          have R'' := R'.next hu' hrow (fun v hv => by
            obtain ⟨k, hk⟩ := List.getElem?_of_mem hv
            exact hall k (by rw [List.length_map]; exact (List.getElem?_eq_some_iff.mp hk).1) v hk)
          have hl2 := R''.len M
          have hle := R''.le
          refine ⟨_, rfl, _, _, rfl, rfl, ⟨i + 1, ord', _, _, rfl, sm2, g1, g2, R''⟩, ?_⟩
          show 401 - ((i : Int) + 1).toNat < 401 - (i : Int).toNat
          omega
      · refine ⟨_, rfl, k H1 o ord sm ho h1 (R.isOrd M ?_)⟩
        have h9 : ¬ ((i : Int) < ((ord.map natV).length : Int)) := fun z => hlt (decide_eq_true z)
        rw [List.length_map] at h9
        omega
    · rintro σ H1 Q1 Q2 hQ ⟨x, e1, y, e2, p, ys, e3, e4, i, j, e5, e6, b, e7, q⟩
      exact ⟨x, e1, y, e2, p, ys, e3, e4, i, j, e5, e6, b, e7, hQ _ _ q⟩
end
/-! ### the law's own states that are come to -/
theorem notIn_nat {ord : List Nat} {v : Nat} : inV (.int (v : Int)) (ord.map natV) = decide (v ∈ ord) := by
  unfold inV
  rw [Bool.eq_iff_iff, List.any_eq_true, decide_eq_true_iff]
  constructor
  · rintro ⟨y, hy, e⟩
    obtain ⟨u, hu, rfl⟩ := List.mem_map.mp hy
    have e : ((u : Int) == (v : Int)) = true := e
    have := eq_of_beq e
    rw [show v = u by omega]
    exact hu
  · intro h
    exact ⟨natV v, List.mem_map_of_mem h, by show ((v : Int) == (v : Int)) = true; exact beq_self_eq_true _⟩
theorem flat_nat {ord : List Nat} : (ord.map natV).all flatV = true := by
  rw [List.all_map, List.all_eq_true]
  exact fun _ _ => rfl
section
variable {P : Program} {w : World} {K : PySem.W.Frag} {mg : Str → Option Value} {base : Heap}
theorem scMet : FnScope ["_law_rows", "_law_found", "_law_at", "_law_item"] ["_law_rows"] (defScope sMet) := ⟨rfl, rfl, rfl, by decide +kernel, rfl, by decide +kernel, by decide +kernel⟩
theorem ok_met {f : Addr} {fd : FuncData} (F : Fun K "_law_met" "_law_met" sMet f fd) (T : Mg mg) : FnOk P w K mg base CX0 1 f fd ["_law_rows"] spReached := by
  refine F.ok scMet (fun vs H Q E h => ?_) (fun cdv A outer s H vs Q E hr h => ?_)
  · obtain ⟨L, rs, es, m, pr, pe, rvs, rfl, _⟩ := h
    rfl
  · obtain ⟨L, rs, es, m, pr, pe, rvs, rfl, M, MM, k⟩ := h
    refine ⟨_, pss_cons (ps_par (i := 1) (j := 2) rfl scMet.nd rfl rfl (by decide) rfl rfl (pa_cons (pe_lst (pa_cons pe_int pa_nil)) (pa_cons pe_int pa_nil)) (by rfl))
      (pss_cons (ps_while PassesOwn.never (pt_cmpR op_lt (pv 2) (pe_callB (r := rLen K) call_len_seq (by rfl) T.len PySem.boot_len (pa_cons (pv 1) pa_nil)) (nomark _))
        (pss_cons (ps_for PassesOwn.never rfl (pi_tup (pe_ix (r := rIxT K) ix_tup (pv 0) (pe_ix ix_list (pv 1) (pv 2) (fun _ _ => rfl)) (fun _ _ => rfl))) (pg_name (i := 3) scMet.nd rfl (.inl rfl))
          (pss_one (ps_if (PW.pt (pw_and (pt_cmp (pc_notN (pv 3))) (pw_and1 (pt_cmpR op_notIn_seq (pv 3) (pv 1) rfl))))
            (pss_one (ps_expr (pe_bm PySem.F.plainAttrs_list PySem.F.slot_list_append PySem.F.type_list_append mt_append (pv 1) (pa_cons (pv 3) pa_nil))))
            pss_nil)))
        (pss_one (ps_set (i := 2) scMet.nd rfl (.inl rfl) (pe_op op_add (pv 2) pe_int)))))
      (pss_one (ps_ret (pv 1)))), ?_⟩
    refine ⟨by show 1 ≤ sizeLine; decide, fun o ho => ?_⟩
    have s1 := same_new (o := .lst [.int 0]) ho
    have l4 := M.l400
    refine ⟨_, _, rfl, ?_⟩
    refine while_by (fun σ H' => ∃ (i : Nat) (ord : List Nat) (y3 : Option V), σ = [some (.ref pr), some (.ref o), some (.int (i : Int)), y3] ∧ Same H H' ∧ H' o = some (.lst (ord.map natV)) ∧ ROrd rs i ord)
      (fun (σ : List (Option V)) (_ : Hp) => match σ[2]? with
        | some (some (V.int i)) => 401 - i.toNat
        | _ => 0) ⟨0, [0], none, rfl, s1, upd_same, rord0⟩ ?_ ?_
    · rintro σ H1 ⟨i, ord, y3, rfl, sm, h1, R⟩
      have hol := R.len M
      refine ⟨_, rfl, _, rfl, o, _, rfl, .inl (SqL.of h1), _, _, rfl, rfl, _, rfl, ite2 (fun hlt => ?_) fun hlt => ?_⟩
      · have hlt := of_decide_eq_true hlt
        rw [List.length_map] at hlt
        have hi : i < ord.length := by omega
        have hu : ord[i]? = some ord[i] := List.getElem?_eq_getElem hi
        have hmu := List.getElem_mem hi
        generalize ord[i] = u at *
        have hun := M.reach_lt u (R.rch u hmu)
        have hrow : rs[u]? = some rs[u] := List.getElem?_eq_getElem hun
        have hmr := List.getElem_mem hun
        generalize rs[u] = row at *
        have MM1 := MM.same sm
        obtain ⟨q, hq1, hq2⟩ := MM1.row u row hrow
        refine ⟨_, rfl, _, rfl, _, rfl, o, _, (i : Int), _, rfl, rfl, SqL.of h1, atI_nat (natV_get hu), pr, rvs, (u : Int), _, rfl, rfl, .inl MM1.hr, atI_nat hq1, q, rfl, ⟨_, .inl hq2⟩, ?_⟩
        refine for_tup (K := K) (a := q) (xs := row.map oV) (fun j σ H' => (∃ y3, σ = [some (.ref pr), some (.ref o), some (.int (i : Int)), y3]) ∧ Same H H' ∧ (∀ {a : Addr} {xs : List V}, Rd H1 a (.tup xs) → Rd H' a (.tup xs)) ∧ ∃ ord', H' o = some (.lst (ord'.map natV)) ∧ ROrd rs i ord' ∧ ord'[i]? = some u ∧ ∀ k, k < j → ∀ v, row[k]? = some (some v) → v ∈ ord')
          ⟨⟨_, rfl⟩, sm, fun h => h, ord, h1, R, hu, fun k hk => absurd hk (Nat.not_lt_zero _)⟩ (fun j σ H' _ p => .inl (p.2.2.1 hq2)) ?_ ?_
        · rintro j x σ H2 hx ⟨⟨y5, rfl⟩, sm2, rdk, ord', g1, R', hu', hall⟩
          rw [List.getElem?_map] at hx
          obtain ⟨tg, hj, rfl⟩ := Option.map_eq_some_iff.mp hx
          refine ⟨_, rfl, _, rfl, ?_⟩
          cases tg with
          | none =>
            refine ⟨⟨_, rfl⟩, sm2, rdk, ord', g1, R', hu', fun k hk v hv => ?_⟩
            by_cases e : k = j
            · rw [e, hj] at hv
              cases hv
            · exact hall k (by omega) v hv
          | some v =>
            have hrv : Reach rs v := .s (R'.rch u (List.mem_of_getElem? hu')) hrow hj
            refine ⟨_, rfl, _, rfl, o, _, rfl, .inl (SqL.of g1), rfl, flat_nat, _, rfl, ?_⟩
            have enot : inV (oV (some v)) (ord'.map natV) = decide (v ∈ ord') := notIn_nat
            rw [enot]
            by_cases hin : v ∈ ord'
            · rw [decide_eq_true hin]
              refine ⟨⟨_, rfl⟩, sm2, rdk, ord', g1, R', hu', fun k hk w hw => ?_⟩
              by_cases e : k = j
              · rw [e, hj] at hw
                cases hw
                exact hin
              · exact hall k (by omega) w hw
            · rw [decide_eq_false hin]
              have hol2 := (R'.push hin hrv).len M
              rw [List.length_append, List.length_singleton] at hol2
              refine ⟨_, rfl, .inl ⟨rfl, _, SqL.of g1⟩, _, rfl, o, _, _, rfl, rfl, g1, small1000 (by rw [List.length_map]; omega), ?_⟩
              refine ⟨⟨_, rfl⟩, fun b z e => ?_, fun {a} {xs} h => ?_, ord' ++ [v], by rw [upd_same, List.map_append]; rfl, R'.push hin hrv, ?_, fun k hk w hw => ?_⟩
              · rw [upd_ne (ne_of_none e ho)]
                exact sm2 b z e
              · have h' := rdk h
                have na : a ≠ o := fun z => by
                  rw [z] at h'
                  rcases h' with h' | ⟨_, h'⟩ <;> (rw [g1] at h'; cases h')
                rcases h' with h' | ⟨ob, h'⟩
                · exact .inl (by rw [upd_ne na]; exact h')
                · exact .inr ⟨ob, by rw [upd_ne na]; exact h'⟩
              · rw [List.getElem?_append_left (List.getElem?_eq_some_iff.mp hu').1]
                exact hu'
              · by_cases e : k = j
                · rw [e, hj] at hw
                  cases hw
                  exact List.mem_append_right _ (List.mem_singleton.mpr rfl)
                · exact List.mem_append_left _ (hall k (by omega) w hw)
        · rintro σ H2 ⟨⟨y5, rfl⟩, sm2, rdk, ord', g1, R', hu', hall⟩
          have R'' := R'.next hu' hrow (fun v hv => by
            obtain ⟨k, hk⟩ := List.getElem?_of_mem hv
            exact hall k (by rw [List.length_map]; exact (List.getElem?_eq_some_iff.mp hk).1) v hk)
          have hl2 := R''.len M
          have hle := R''.le
          refine ⟨_, rfl, _, _, rfl, rfl, ⟨i + 1, ord', _, rfl, sm2, g1, R''⟩, ?_⟩
          show 401 - ((i : Int) + 1).toNat < 401 - (i : Int).toNat
          omega
      · refine ⟨_, rfl, k H1 o ord sm ho h1 (R.isOrd M ?_)⟩
        have h9 : ¬ ((i : Int) < ((ord.map natV).length : Int)) := fun z => hlt (decide_eq_true z)
        rw [List.length_map] at h9
        omega
    · rintro σ H1 Q1 Q2 hQ ⟨x, e1, y, e2, p, ys, e3, e4, i, j, e5, e6, b, e7, q⟩
      exact ⟨x, e1, y, e2, p, ys, e3, e4, i, j, e5, e6, b, e7, hQ _ _ q⟩
end
/-! ### drawn machines -/
theorem rows_of {L : Nat} {m : Int} : ∀ {rs : List PyData}, (∀ r ∈ rs, RowD (L : Int) m r) → ∃ rows : Rows, rs = rows.map rowDt ∧ ∀ row ∈ rows, row.length = L ∧ ∀ v, some v ∈ row → (v : Int) < m
  | [], _ => ⟨[], rfl, fun _ h => absurd h List.not_mem_nil⟩
  | r :: rs, h => by
    obtain ⟨rows, e, h1⟩ := rows_of (rs := rs) fun r' hr => h r' (List.mem_cons_of_mem _ hr)
    obtain ⟨is, e2, h2, h3⟩ := h r List.mem_cons_self
    have : ∀ {is : List PyData}, (∀ i ∈ is, Ri m i) → ∃ row : List (Option Nat), is = row.map oD ∧ ∀ v, some v ∈ row → (v : Int) < m := by
      intro is
      induction is with
      | nil => intro _; exact ⟨[], rfl, fun _ h => absurd h List.not_mem_nil⟩
      | cons i is ih =>
        intro hi
        obtain ⟨row, e, hv⟩ := ih fun j hj => hi j (List.mem_cons_of_mem _ hj)
        rcases hi i List.mem_cons_self with rfl | ⟨k, rfl, k0, k1⟩
        · exact ⟨none :: row, by rw [e]; rfl, fun v hm => by
            rcases List.mem_cons.mp hm with hm | hm
            · cases hm
            · exact hv v hm⟩
        · refine ⟨some k.toNat :: row, by rw [e, List.map_cons]; show _ = PyData.int (k.toNat : Int) :: _; rw [Int.toNat_of_nonneg k0], fun v hm => ?_⟩
          rcases List.mem_cons.mp hm with hm | hm
          · cases hm
            omega
          · exact hv v hm
    obtain ⟨row, e3, hv⟩ := this h3
    refine ⟨row :: rows, by rw [e, e2, e3]; rfl, fun row' hr => ?_⟩
    rcases List.mem_cons.mp hr with hr | hr
    · rw [hr]
      refine ⟨?_, hv⟩
      rw [e3, List.length_map] at h2
      omega
    · exact h1 row' hr
theorem ends_of : ∀ {es : List PyData}, (∀ e ∈ es, isBool e = true) → ∃ bs : List Bool, es = bs.map .bool
  | [], _ => ⟨[], rfl⟩
  | e :: es, h => by
    obtain ⟨bs, e1⟩ := ends_of fun e' he => h e' (List.mem_cons_of_mem _ he)
    have := h e List.mem_cons_self
    cases e with
    | bool b => exact ⟨b :: bs, by rw [e1]; rfl⟩
    | _ => cases this
theorem mach_of {K : PySem.W.Frag} {a c : Addr} {H : Hp} {v : V} {L : Nat} {M : Int} {rs es : List PyData} (h : MachD K a c H v (L : Int) M rs es) (L1 : 1 ≤ L) (L3 : L ≤ 3) (hM : M ≤ 400) :
    ∃ (rows : Rows) (bs : List Bool), Dt (Bd a c) K H v (machDt L rows bs) ∧ MOk L rows bs ∧ (rows.length : Int) ≤ M := by
  obtain ⟨h1, h2, h3, h4, h5, h6⟩ := h
  obtain ⟨rows, rfl, h7⟩ := rows_of h5
  obtain ⟨bs, rfl⟩ := ends_of h6
  rw [List.length_map] at h2 h3 h4
  rw [List.length_map] at h4
  refine ⟨rows, bs, h1, ⟨h2, by omega, fun row hr => (h7 row hr).1, fun row hr v hv => ?_, h4, L1, L3⟩, h3⟩
  have := (h7 row hr).2 v hv
  rw [List.length_map] at this
  omega
/-! ### rows and rings of many states, built -/
theorem atI_neg1 {α : Type} {xs : List α} {v : α} (h : xs[xs.length - 1]? = some v) (hp : 1 ≤ xs.length) : atI xs (-1) = some v := by
  have e : ixN xs.length (-1) = some (xs.length - 1) := by
    unfold ixN
    rw [if_neg (by decide), if_pos (by omega)]
    congr 1
    omega
  unfold atI
  rw [e]
  exact h
theorem mok_long {n : Nat} {ring : Bool} (h2 : 2 ≤ n) (h4 : n ≤ 400) : MOk 1 (rsLong n ring) (esLong n) where
  l1 := by rw [long_len (by omega)]; omega
  l400 := by rw [long_len (by omega)]; exact h4
  row := fun row h => by
    unfold rsLong at h
    rcases List.mem_append.mp h with h | h
    · obtain ⟨i, _, rfl⟩ := List.mem_map.mp h
      rfl
    · rw [List.mem_singleton.mp h]
      rfl
  tgt := fun row h v hv => by
    rw [long_len (by omega)]
    unfold rsLong at h
    rcases List.mem_append.mp h with h | h
    · obtain ⟨i, hi, rfl⟩ := List.mem_map.mp h
      rw [List.mem_range] at hi
      have := List.mem_singleton.mp hv
      cases this
      omega
    · rw [List.mem_singleton.mp h] at hv
      have := List.mem_singleton.mp hv
      cases ring with
      | true => cases this; omega
      | false => cases this
  es := by
    rw [long_len (by omega)]
    unfold esLong
    rw [List.length_append, List.length_replicate, List.length_singleton]
    omega
  L1 := Nat.le_refl _
  L3 := by decide
def lrow (i : Nat) : PyData := rowDt [some (i + 1)]
def LInv (K : PySem.W.Frag) (H : Hp) (D : Addr) (j : Nat) (H' : Hp) : Prop := Same H H' ∧ ∃ acc, H' D = some (.lst acc) ∧ acc.length = j ∧ ∀ B : Addr → Prop, TB B H → DtAll (fun b => B b ∨ b = D) K H' acc ((List.range j).map lrow)
theorem dt_lst {B : Addr → Prop} {K : PySem.W.Frag} {H H' : Hp} {D : Addr} {xs : List V} (nD : H D = none) (h1 : H' D = some (.lst xs)) (o : HO) : ∀ {ds : List PyData} {vs : List V}, DtAll (fun b => B b ∨ b = D) K H' vs ds → DtAll (fun b => B b ∨ b = D) K (upd H' D o) vs ds := by
  intro ds vs h
  have kp : Keep (fun b => B b ∨ b = D) H' (upd H' D o) := fun b u nb e => by
    rw [upd_ne (fun z => nb (.inr z))]
    exact e
  exact DtAll.keep kp _ _ h
section
variable {P : Program} {w : World} {K : PySem.W.Frag} {mg : Str → Option Value} {base : Heap}
theorem scLong : FnScope ["_law_many", "_law_is_ring", "_law_rows", "_law_state"] ["_law_many", "_law_is_ring"] (defScope sLong) := ⟨rfl, rfl, rfl, by decide +kernel, rfl, by decide +kernel, by decide +kernel⟩
def spLong (K : PySem.W.Frag) : Sp := fun vs H Q _ => ∃ (n : Nat) (ring : Bool), vs = [.int (n : Int), .bl ring] ∧ 2 ≤ n ∧ n ≤ 400 ∧
  ∀ H' v, Same H H' → (∀ B, TB B H → Dt B K H' v (machDt 1 (rsLong n ring) (esLong n))) → Q v H'
theorem ok_long {f : Addr} {fd : FuncData} (F : Fun K "_law_long" "_law_long" sLong f fd) (T : Mg mg) : FnOk P w K mg base CX0 1 f fd ["_law_many", "_law_is_ring"] (spLong K) := by
  refine F.ok scLong (fun vs H Q E h => ?_) (fun cdv A outer s H vs Q E hr h => ?_)
  · obtain ⟨n, ring, rfl, _⟩ := h
    rfl
  · obtain ⟨n, ring, rfl, n2, n4, k⟩ := h
    refine ⟨_, pss_cons (ps_set (i := 2) scLong.nd rfl (.inl rfl) (pe_op op_cat (pe_lc (own := [("_law_state", 3)]) (g := gName 3) (tt := tYes) rfl scLong.nd (pi_range1 (by rfl) T.range (pa_cons (pe_op op_sub (pv 0) pe_int) pa_nil)) (blkOk_by (N := ["_law_many", "_law_is_ring", "_law_rows", "_law_state"]) (sc := defScope sLong) (by decide +kernel)) (fun _ _ _ _ _ => pg_name (i := 3) scLong.nd rfl (Or.inl rfl)) (fun _ _ _ _ _ => pts_nil) (fun _ _ _ _ _ => pe_tup (pa_cons (pe_op op_add (pv 3) pe_int) pa_nil)))
        (pe_lst (pa_cons (pe_tup (pa_cons (pe_ifExp (pt_val (pv 1)) pe_int pe_non) pa_nil)) pa_nil))))
      (pss_one (ps_ret (pe_tup (pa_cons pe_int (pa_cons (pe_callTy (r := rTup K) call_tuple_of (by rfl) T.tuple PyProof.Rows.boot_tuple (pa_cons (pv 2) pa_nil)) (pa_cons (pe_op op_catS (pe_op op_repS (pe_tup (pa_cons pe_bl pa_nil)) (pe_op op_sub (pv 0) pe_int)) (pe_tup (pa_cons pe_bl pa_nil))) pa_nil)))))), ?_⟩
    refine ⟨_, rfl, _, _, rfl, rfl, ((n : Int) - 1), rfl, by omega, by omega, fun D nD => ?_⟩
    refine lc_range (lo := 0) (n := ((n : Int) - 1).toNat) (LInv K H D) ⟨same_new nD, [], upd_same, rfl, fun B tb => .nil⟩ ?_ ?_
    · rintro j H1 hj ⟨sm, acc, hD1, hl, hB⟩
      refine ⟨rfl, _, rfl, _, _, rfl, rfl, by show 1 ≤ sizeLine; decide, fun t nt => ?_⟩
      have st := same_new (o := .tup [.int (0 + (j : Int) + 1)]) nt
      refine ⟨acc, st _ _ hD1, small1000 (by omega), fun b u e => ?_, acc ++ [.ref t], upd_same, by rw [List.length_append, hl]; rfl, fun B tb => ?_⟩
      · rw [upd_ne (ne_of_none e nD)]
        exact st _ _ (sm _ _ e)
      · have ntD : t ≠ D := fun z => by
          rw [← z] at hD1
          rw [nt] at hD1
          cases hD1
        refine dt_lst nD (st _ _ hD1) _ ?_
        rw [List.range_succ, List.map_append]
        have tb2 : TB (fun b => B b ∨ b = D) H1 := fun b z e => by
          rcases z with z | z
          · exact tb_same sm tb b z e
          · rw [z, hD1] at e
            cases e
        refine (same_all st (hB B tb)).append (.cons (.tup (tb_off tb2 nt) (.inl upd_same) ?_) .nil)
        · show DtAll _ K _ [V.int (0 + (j : Int) + 1)] [PyData.int ((j + 1 : Nat) : Int)]
          rw [show (0 + (j : Int) + 1) = ((j + 1 : Nat) : Int) by omega]
          exact .cons (.int _) .nil
    · rintro H1 ⟨sm, acc, hD1, hl, hB⟩
      cases ring with
      | true =>
        refine ⟨_, rfl, true, rfl, by show 1 ≤ sizeLine; decide, fun t nt => ?_⟩
        have st := same_new (o := .tup [.int 0]) nt
        refine ⟨by show 1 ≤ sizeLine; decide, fun l nl => ?_⟩
        have sl := same_new (o := .lst [.ref t]) nl
        have hlen : acc.length + 1 ≤ sizeLine := sz_of (by rw [hl]; omega)
        refine ⟨D, l, acc, [.ref t], rfl, rfl, sl _ _ (st _ _ hD1), upd_same, hlen, fun p np => ?_⟩
        have sp := same_new (o := .lst (acc ++ [.ref t])) np
        refine ⟨_, rfl, p, _, rfl, .inl ⟨SqL.of upd_same, fun tr ntr => ?_⟩⟩
        have str := same_new (o := .tup (acc ++ [.ref t])) ntr
        have s5 := (sm.trans st).trans ((sl.trans sp).trans str)
        have h5t : Rd (upd (upd (upd (upd H1 t (.tup [.int 0])) l (.lst [.ref t])) p (.lst (acc ++ [.ref t]))) tr (.tup (acc ++ [.ref t]))) t (.tup [.int 0]) := same_rd ((sl.trans sp).trans str) (.inl upd_same)
        have s15 := st.trans ((sl.trans sp).trans str)
        have h5r : Rd (upd (upd (upd (upd H1 t (.tup [.int 0])) l (.lst [.ref t])) p (.lst (acc ++ [.ref t]))) tr (.tup (acc ++ [.ref t]))) tr (.tup (acc ++ [.ref t])) := .inl upd_same
        have n5t : ∀ {B : Addr → Prop}, TB B H → ¬ B t := fun tb => tb_off (tb_same sm tb) nt
        have n5r : ∀ {B : Addr → Prop}, TB B H → ¬ B tr := fun tb => tb_off (tb_same (sm.trans (st.trans (sl.trans sp))) tb) ntr
        generalize upd (upd (upd (upd H1 t (.tup [.int 0])) l (.lst [.ref t])) p (.lst (acc ++ [.ref t]))) tr (.tup (acc ++ [.ref t])) = G5 at *
        refine ⟨by show 1 ≤ sizeLine; decide, fun f1 nf1 => ?_⟩
        have s6 := same_new (o := .tup [.bl false]) nf1
        refine ⟨_, rfl, _, _, rfl, rfl, f1, (n : Int) - 1, _, rfl, rfl, .inl upd_same, List.cons_ne_nil _ _, by omega, by omega, by show 1 ≤ 1000; decide, fun q H7 s7 hq wq => ?_⟩
        rw [show (List.replicate ((n : Int) - 1).toNat [V.bl false]).flatten = (List.replicate (n - 1) false).map V.bl by rw [show ((n : Int) - 1).toNat = n - 1 by omega]; simp] at hq
        refine ⟨by show 1 ≤ sizeLine; decide, fun u nu => ?_⟩
        have s8 := same_new (o := .tup [.bl true]) nu
        refine ⟨q, u, _, _, rfl, rfl, same_rd s8 hq, .inl upd_same, sz_of (by rw [List.length_map, List.length_replicate, List.length_singleton]; omega), fun q2 H9 s9 hq2 w2 => ?_⟩
        refine ⟨by show 3 ≤ sizeLine; decide, fun z nz => ?_⟩
        have sz := same_new (o := .tup [.int 1, .ref tr, .ref q2]) nz
        have s59 := (s6.trans s7).trans ((s8.trans s9).trans sz)
        refine k _ (.ref z) (s5.trans s59) fun B tb => ?_
        have tb5 := tb_same s5 tb
        have tb6 := tb_same s6 tb5
        have tb7 := tb_same s7 tb6
        have nq := nb_of tb6 (tb_off tb5 nf1) wq
        have nq2 := nb_of2 (tb_same s8 tb7) nq (tb_off tb7 nu) w2
        have nz' := tb_off (tb_same (s8.trans s9) tb7) nz
        have hA := (hB B tb).weak (B' := B) (fun b hb => .inl hb)
        have er : (rsLong n true).map rowDt = (List.range (n - 1)).map lrow ++ [rowDt [some 0]] := by
          unfold rsLong
          rw [List.map_append, List.map_map]
          rfl
        rw [show ((n : Int) - 1).toNat = n - 1 by omega] at hA
        refine .tup nz' (.inl upd_same) (.cons (.int _) (.cons (.tup (n5r tb) (same_rd s59 h5r) ?_) (.cons (.tup nq2 (same_rd sz hq2) ?_) .nil)))
        · rw [er]
          exact (same_all (s15.trans s59) hA).append (.cons (.tup (n5t tb) (same_rd s59 h5t) (.cons (.int _) .nil)) .nil)
        · have := dt_cs (B := B) (K := K) (H := upd H9 z (.tup [.int 1, .ref tr, .ref q2])) (fun x => Dt.bl x) (esLong n)
          unfold esLong at this ⊢
          rw [List.map_append] at this
          exact this
      | false =>
        refine ⟨_, rfl, false, rfl, by show 1 ≤ sizeLine; decide, fun t nt => ?_⟩
        have st := same_new (o := .tup [.non]) nt
        refine ⟨by show 1 ≤ sizeLine; decide, fun l nl => ?_⟩
        have sl := same_new (o := .lst [.ref t]) nl
        have hlen : acc.length + 1 ≤ sizeLine := sz_of (by rw [hl]; omega)
        refine ⟨D, l, acc, [.ref t], rfl, rfl, sl _ _ (st _ _ hD1), upd_same, hlen, fun p np => ?_⟩
        have sp := same_new (o := .lst (acc ++ [.ref t])) np
        refine ⟨_, rfl, p, _, rfl, .inl ⟨SqL.of upd_same, fun tr ntr => ?_⟩⟩
        have str := same_new (o := .tup (acc ++ [.ref t])) ntr
        have s5 := (sm.trans st).trans ((sl.trans sp).trans str)
        have h5t : Rd (upd (upd (upd (upd H1 t (.tup [.non])) l (.lst [.ref t])) p (.lst (acc ++ [.ref t]))) tr (.tup (acc ++ [.ref t]))) t (.tup [.non]) := same_rd ((sl.trans sp).trans str) (.inl upd_same)
        have s15 := st.trans ((sl.trans sp).trans str)
        have h5r : Rd (upd (upd (upd (upd H1 t (.tup [.non])) l (.lst [.ref t])) p (.lst (acc ++ [.ref t]))) tr (.tup (acc ++ [.ref t]))) tr (.tup (acc ++ [.ref t])) := .inl upd_same
        have n5t : ∀ {B : Addr → Prop}, TB B H → ¬ B t := fun tb => tb_off (tb_same sm tb) nt
        have n5r : ∀ {B : Addr → Prop}, TB B H → ¬ B tr := fun tb => tb_off (tb_same (sm.trans (st.trans (sl.trans sp))) tb) ntr
        generalize upd (upd (upd (upd H1 t (.tup [.non])) l (.lst [.ref t])) p (.lst (acc ++ [.ref t]))) tr (.tup (acc ++ [.ref t])) = G5 at *
        refine ⟨by show 1 ≤ sizeLine; decide, fun f1 nf1 => ?_⟩
        have s6 := same_new (o := .tup [.bl false]) nf1
        refine ⟨_, rfl, _, _, rfl, rfl, f1, (n : Int) - 1, _, rfl, rfl, .inl upd_same, List.cons_ne_nil _ _, by omega, by omega, by show 1 ≤ 1000; decide, fun q H7 s7 hq wq => ?_⟩
        rw [show (List.replicate ((n : Int) - 1).toNat [V.bl false]).flatten = (List.replicate (n - 1) false).map V.bl by rw [show ((n : Int) - 1).toNat = n - 1 by omega]; simp] at hq
        refine ⟨by show 1 ≤ sizeLine; decide, fun u nu => ?_⟩
        have s8 := same_new (o := .tup [.bl true]) nu
        refine ⟨q, u, _, _, rfl, rfl, same_rd s8 hq, .inl upd_same, sz_of (by rw [List.length_map, List.length_replicate, List.length_singleton]; omega), fun q2 H9 s9 hq2 w2 => ?_⟩
        refine ⟨by show 3 ≤ sizeLine; decide, fun z nz => ?_⟩
        have sz := same_new (o := .tup [.int 1, .ref tr, .ref q2]) nz
        have s59 := (s6.trans s7).trans ((s8.trans s9).trans sz)
        refine k _ (.ref z) (s5.trans s59) fun B tb => ?_
        have tb5 := tb_same s5 tb
        have tb6 := tb_same s6 tb5
        have tb7 := tb_same s7 tb6
        have nq := nb_of tb6 (tb_off tb5 nf1) wq
        have nq2 := nb_of2 (tb_same s8 tb7) nq (tb_off tb7 nu) w2
        have nz' := tb_off (tb_same (s8.trans s9) tb7) nz
        have hA := (hB B tb).weak (B' := B) (fun b hb => .inl hb)
        have er : (rsLong n false).map rowDt = (List.range (n - 1)).map lrow ++ [rowDt [none]] := by
          unfold rsLong
          rw [List.map_append, List.map_map]
          rfl
        rw [show ((n : Int) - 1).toNat = n - 1 by omega] at hA
        refine .tup nz' (.inl upd_same) (.cons (.int _) (.cons (.tup (n5r tb) (same_rd s59 h5r) ?_) (.cons (.tup nq2 (same_rd sz hq2) ?_) .nil)))
        · rw [er]
          exact (same_all (s15.trans s59) hA).append (.cons (.tup (n5t tb) (same_rd s59 h5t) (.cons .non .nil)) .nil)
        · have := dt_cs (B := B) (K := K) (H := upd H9 z (.tup [.int 1, .ref tr, .ref q2])) (fun x => Dt.bl x) (esLong n)
          unfold esLong at this ⊢
          rw [List.map_append] at this
          exact this
end
/-! ### machines, their words and what states are the same -/
abbrev Rws := List (List (Option Nat))
def nx (rs : Rws) (s c : Nat) : Option Nat := (rs.getD s []).getD c none
def acc (rs : Rws) (es : List Bool) : List Nat → Nat → Bool
  | [], s => es.getD s false
  | c :: w, s => match nx rs s c with
    | none => false
    | some t => acc rs es w t
def Live (rs : Rws) (es : List Bool) (s : Nat) : Prop := ∃ w, acc rs es w s = true
/-- state s of one machine has the words of state t of another one -/
def Eqv (rs : Rws) (es : List Bool) (rs' : Rws) (es' : List Bool) (s t : Nat) : Prop := ∀ w, acc rs es w s = acc rs' es' w t
theorem Eqv.refl {rs : Rws} {es : List Bool} (s : Nat) : Eqv rs es rs es s s := fun _ => rfl
theorem Eqv.symm {rs rs' : Rws} {es es' : List Bool} {s t : Nat} (h : Eqv rs es rs' es' s t) : Eqv rs' es' rs es t s := fun w => (h w).symm
theorem Eqv.trans {rs rs' rs2 : Rws} {es es' es2 : List Bool} {s t u : Nat} (h : Eqv rs es rs' es' s t) (g : Eqv rs' es' rs2 es2 t u) : Eqv rs es rs2 es2 s u := fun w => (h w).trans (g w)
theorem Eqv.live {rs rs' : Rws} {es es' : List Bool} {s t : Nat} (h : Eqv rs es rs' es' s t) (l : Live rs es s) : Live rs' es' t := by
  obtain ⟨w, hw⟩ := l
  exact ⟨w, by rw [← h w]; exact hw⟩
theorem acc_cons {rs : Rws} {es : List Bool} {s c t : Nat} {w : List Nat} (h : nx rs s c = some t) : acc rs es (c :: w) s = acc rs es w t := by
  show (match nx rs s c with | none => false | some t => acc rs es w t) = _
  rw [h]
theorem acc_none {rs : Rws} {es : List Bool} {s c : Nat} {w : List Nat} (h : nx rs s c = none) : acc rs es (c :: w) s = false := by
  show (match nx rs s c with | none => false | some t => acc rs es w t) = _
  rw [h]
/-- a way on that leads to words -/
def Way (rs : Rws) (es : List Bool) (s c t : Nat) : Prop := nx rs s c = some t ∧ Live rs es t
theorem Eqv.way {rs rs' : Rws} {es es' : List Bool} {s s' c t : Nat} (h : Eqv rs es rs' es' s s') (w : Way rs es s c t) : ∃ t', Way rs' es' s' c t' ∧ Eqv rs es rs' es' t t' := by
  obtain ⟨e, v, hv⟩ := w
  have h1 := h (c :: v)
  rw [acc_cons e, hv] at h1
  cases e' : nx rs' s' c with
  | none =>
    rw [acc_none e'] at h1
    cases h1
  | some t' =>
    rw [acc_cons e'] at h1
    refine ⟨t', ⟨e', v, h1.symm⟩, fun u => ?_⟩
    have h2 := h (c :: u)
    rw [acc_cons e, acc_cons e'] at h2
    exact h2
/-- the smallest machine, numbered by the first words; ps: which states of the machine stand for its own -/
structure Canon (rs : Rws) (es : List Bool) (L : Nat) (ps : List Nat) (out : Rws) (oe : List Bool) : Prop where
  lo : out.length = ps.length
  le : oe.length = ps.length
  zero : ps[0]? = some 0
  live : ∀ p ∈ ps, Live rs es p
  one : ∀ (i j p q : Nat), ps[i]? = some p → ps[j]? = some q → Eqv rs es rs es p q → i = j
  wide : ∀ r ∈ out, r.length = L
  ends : ∀ (i p : Nat), ps[i]? = some p → oe[i]? = some (es.getD p false)
  some_ : ∀ (i p c j : Nat), ps[i]? = some p → nx out i c = some j → ∃ t q, Way rs es p c t ∧ ps[j]? = some q ∧ Eqv rs es rs es t q
  none_ : ∀ (i p c t : Nat), ps[i]? = some p → c < L → nx out i c = none → ¬ Way rs es p c t
  over : ∀ (p c t : Nat), p ∈ ps → Way rs es p c t → c < L
  ord : ∀ (j : Nat), 1 ≤ j → j < ps.length → ∃ (i c : Nat), i < j ∧ nx out i c = some j ∧ ∀ (i' c' j' : Nat), nx out i' c' = some j' → j ≤ j' → i < i' ∨ (i = i' ∧ c ≤ c')
section
variable {rs rs' : Rws} {es es' : List Bool} {L : Nat} {ps ps' : List Nat} {out out' : Rws} {oe oe' : List Bool}
theorem Canon.go (C : Canon rs es L ps out oe) {i p c t : Nat} (hp : ps[i]? = some p) (w : Way rs es p c t) : ∃ j q, nx out i c = some j ∧ ps[j]? = some q ∧ Eqv rs es rs es t q := by
  have hc := C.over p c t (List.mem_of_getElem? hp) w
  cases e : nx out i c with
  | none => exact absurd w (C.none_ i p c t hp hc e)
  | some j =>
    obtain ⟨t', q, w', hq, he⟩ := C.some_ i p c j hp e
    have : t' = t := Option.some.inj (w'.1.symm.trans w.1)
    subst this
    exact ⟨j, q, rfl, hq, he⟩
theorem canon_same (C : Canon rs es L ps out oe) (C' : Canon rs' es' L ps' out' oe') (h0 : Eqv rs es rs' es' 0 0) : ∀ (j p : Nat), ps[j]? = some p → ∃ p', ps'[j]? = some p' ∧ Eqv rs es rs' es' p p' := by
  intro j
  induction j using Nat.strongRecOn with
  | ind j ih =>
    intro p hp
    by_cases z : j = 0
    · subst z
      have : p = 0 := Option.some.inj (hp.symm.trans C.zero)
      subst this
      exact ⟨0, C'.zero, h0⟩
    · have hj := (List.getElem?_eq_some_iff.mp hp).1
      obtain ⟨i, c, hij, hic, hmin⟩ := C.ord j (by omega) hj
      obtain ⟨pi, hpi⟩ : ∃ pi, ps[i]? = some pi := ⟨_, List.getElem?_eq_getElem (show i < ps.length by omega)⟩
      obtain ⟨t, q, w, hq, he⟩ := C.some_ i pi c j hpi hic
      have : q = p := Option.some.inj (hq.symm.trans hp)
      subst this
      obtain ⟨pi', hpi', hei⟩ := ih i hij pi hpi
      obtain ⟨t', w', het⟩ := hei.way w
      obtain ⟨j', q', hic', hq', he'⟩ := C'.go hpi' w'
      have key : Eqv rs es rs' es' q q' := he.symm.trans (het.trans he')
      have : j' = j := by
        rcases Nat.lt_trichotomy j' j with l | l | l
        · obtain ⟨p2, hp2⟩ : ∃ p2, ps[j']? = some p2 := ⟨_, List.getElem?_eq_getElem (show j' < ps.length by omega)⟩
          obtain ⟨q2, hq2, e2⟩ := ih j' l p2 hp2
          have : q2 = q' := Option.some.inj (hq2.symm.trans hq')
          subst this
          exact C.one _ _ _ _ hp2 hp (e2.trans key.symm)
        · exact l
        · have hj' := (List.getElem?_eq_some_iff.mp hq').1
          obtain ⟨i2, c2, hi2, h2, hm2⟩ := C'.ord j (by omega) (by omega)
          have lt := hm2 i c j' hic' (by omega)
          obtain ⟨p2, hp2⟩ : ∃ p2, ps[i2]? = some p2 := ⟨_, List.getElem?_eq_getElem (show i2 < ps.length by omega)⟩
          obtain ⟨p2', hp2', e2⟩ := ih i2 hi2 p2 hp2
          obtain ⟨t2', q2', w2', hq2', he2'⟩ := C'.some_ i2 p2' c2 j hp2' h2
          obtain ⟨t2, w2, het2⟩ := e2.symm.way w2'
          obtain ⟨j2, q2, hic2, hq2, he2⟩ := C.go hp2 w2
          have l2 : j2 < j := by
            rcases Nat.lt_or_ge j2 j with g | g
            · exact g
            · have g2 := hmin i2 c2 j2 hic2 g
              have ne : ¬ (i2 = i ∧ c2 = c) := by
                rintro ⟨rfl, rfl⟩
                rw [hic'] at h2
                have := Option.some.inj h2
                omega
              omega
          obtain ⟨q3, hq3, e3⟩ := ih j2 l2 q2 hq2
          have e4 : Eqv rs' es' rs' es' q3 q2' := e3.symm.trans (he2.symm.trans (het2.symm.trans he2'))
          have := C'.one _ _ _ _ hq3 hq2' e4
          omega
      subst this
      exact ⟨q', hq', key⟩
theorem canon_len (C : Canon rs es L ps out oe) (C' : Canon rs' es' L ps' out' oe') (h0 : Eqv rs es rs' es' 0 0) : ps.length ≤ ps'.length := by
  rcases Nat.lt_or_ge ps'.length ps.length with h | h
  · obtain ⟨p', hp', _⟩ := canon_same C C' h0 ps'.length _ (List.getElem?_eq_getElem h)
    have := (List.getElem?_eq_some_iff.mp hp').1
    omega
  · exact h
theorem canon_nx (C : Canon rs es L ps out oe) (C' : Canon rs' es' L ps' out' oe') (h0 : Eqv rs es rs' es' 0 0) {i c j : Nat} (hi : i < ps.length) (h : nx out i c = some j) : nx out' i c = some j := by
  obtain ⟨p, hp⟩ : ∃ p, ps[i]? = some p := ⟨_, List.getElem?_eq_getElem hi⟩
  obtain ⟨p', hp', e⟩ := canon_same C C' h0 i p hp
  obtain ⟨t, q, w, hq, he⟩ := C.some_ i p c j hp h
  obtain ⟨t', w', het⟩ := e.way w
  obtain ⟨j', q', hj', hq', he'⟩ := C'.go hp' w'
  obtain ⟨q2, hq2, e2⟩ := canon_same C C' h0 j q hq
  have := C'.one _ _ _ _ hq2 hq' (e2.symm.trans (he.symm.trans (het.trans he')))
  rw [this]
  exact hj'
theorem nx_in {rs : Rws} {s c : Nat} (hs : s < rs.length) (hc : c < rs[s].length) : nx rs s c = rs[s][c] := by
  have e : rs.getD s [] = rs[s] := by rw [List.getD_eq_getElem?_getD, List.getElem?_eq_getElem hs, Option.getD_some]
  unfold nx
  rw [e, List.getD_eq_getElem?_getD, List.getElem?_eq_getElem hc, Option.getD_some]
/-- two such machines of the same words are one -/
theorem canon_eq (C : Canon rs es L ps out oe) (C' : Canon rs' es' L ps' out' oe') (h0 : Eqv rs es rs' es' 0 0) : out = out' ∧ oe = oe' := by
  have hl : ps.length = ps'.length := Nat.le_antisymm (canon_len C C' h0) (canon_len C' C h0.symm)
  have lo := C.lo
  have lo' := C'.lo
  have le := C.le
  have le' := C'.le
  refine ⟨List.ext_getElem (by omega) fun i h1 h2 => List.ext_getElem ?_ fun c g1 g2 => ?_, List.ext_getElem (by omega) fun i h1 h2 => ?_⟩
  · rw [C.wide _ (List.getElem_mem h1), C'.wide _ (List.getElem_mem h2)]
  · rw [← nx_in h1 g1, ← nx_in h2 g2]
    cases e : nx out i c with
    | none =>
      cases e' : nx out' i c with
      | none => rfl
      | some j =>
        have := canon_nx C' C h0.symm (by omega) e'
        rw [e] at this
        cases this
    | some j => exact (canon_nx C C' h0 (by omega) e).symm
  · obtain ⟨p, hp⟩ : ∃ p, ps[i]? = some p := ⟨_, List.getElem?_eq_getElem (show i < ps.length by omega)⟩
    obtain ⟨p', hp', e⟩ := canon_same C C' h0 i p hp
    have a := C.ends i p hp
    have b := C'.ends i p' hp'
    rw [List.getElem?_eq_getElem h1] at a
    rw [List.getElem?_eq_getElem h2] at b
    rw [Option.some.inj a, Option.some.inj b]
    exact e []
/-- the words of the smallest machine -/
theorem canon_acc (C : Canon rs es L ps out oe) : ∀ (w : List Nat) (i p : Nat), ps[i]? = some p → acc out oe w i = acc rs es w p
  | [], i, p, hp => by
    show oe.getD i false = es.getD p false
    rw [List.getD_eq_getElem?_getD, C.ends i p hp]
    rfl
  | c :: w, i, p, hp => by
    cases e : nx out i c with
    | some j =>
      obtain ⟨t, q, wy, hq, he⟩ := C.some_ i p c j hp e
      rw [acc_cons e, acc_cons wy.1, canon_acc C w j q hq, he w]
    | none =>
      rw [acc_none e]
      cases e' : acc rs es (c :: w) p with
      | false => rfl
      | true =>
        cases e2 : nx rs p c with
        | none =>
          rw [acc_none e2] at e'
          cases e'
        | some t =>
          rw [acc_cons e2] at e'
          obtain ⟨j, _, hj, _⟩ := C.go hp ⟨e2, w, e'⟩
          rw [e] at hj
          cases hj
theorem canon_eqv (C : Canon rs es L ps out oe) : Eqv out oe rs es 0 0 := fun w => canon_acc C w 0 0 C.zero
end
/-! ### lots of states, numbered -/
structure PB (rs : Rws) (es : List Bool) (L : Nat) (bl : Nat → Option Nat) : Prop where
  wide : ∀ r ∈ rs, r.length = L
  tgt : ∀ r ∈ rs, ∀ t, some t ∈ r → t < rs.length
  inn : ∀ s b, bl s = some b → s < rs.length ∧ Live rs es s
  same : ∀ s t b, bl s = some b → (bl t = some b ↔ ((∃ b', bl t = some b') ∧ Eqv rs es rs es s t))
  on : ∀ s b c t, bl s = some b → Way rs es s c t → ∃ b', bl t = some b'
section
variable {rs : Rws} {es : List Bool} {L : Nat} {bl : Nat → Option Nat}
theorem nx_lt {rs : Rws} {L s c t : Nat} (wide : ∀ r ∈ rs, r.length = L) (h : nx rs s c = some t) : s < rs.length ∧ c < L ∧ ∃ r ∈ rs, some t ∈ r := by
  unfold nx at h
  rw [List.getD_eq_getElem?_getD, List.getD_eq_getElem?_getD] at h
  cases e : rs[s]? with
  | none =>
    rw [e] at h
    cases h
  | some r =>
    rw [e, Option.getD_some] at h
    have hr := List.mem_of_getElem? e
    cases e2 : r[c]? with
    | none =>
      rw [e2] at h
      cases h
    | some o =>
      rw [e2, Option.getD_some] at h
      subst h
      have h1 := (List.getElem?_eq_some_iff.mp e2).1
      rw [wide r hr] at h1
      exact ⟨(List.getElem?_eq_some_iff.mp e).1, h1, r, hr, List.mem_of_getElem? e2⟩
/-- what is there of the table while state after state is numbered: done has the rows that are whole, row the one that is being made -/
structure NI (rs : Rws) (L : Nat) (bl : Nat → Option Nat) (picked nums : List Nat) (done : Rws) (row : List (Option Nat)) : Prop where
  bls : picked.map bl = nums.map some
  nd : nums.Nodup
  zero : picked[0]? = some 0
  lt : done.length ≤ picked.length
  wide : ∀ r ∈ done, r.length = L
  yes : ∀ (i c j : Nat), nx (done ++ [row]) i c = some j → ∃ p t b, picked[i]? = some p ∧ nx rs p c = some t ∧ bl t = some b ∧ nums[j]? = some b
  no : ∀ (i c p t : Nat), (i < done.length ∧ c < L) ∨ (i = done.length ∧ c < row.length) → nx (done ++ [row]) i c = none → picked[i]? = some p → nx rs p c = some t → bl t = none
  ord : ∀ (j : Nat), 1 ≤ j → j < picked.length → ∃ (i c : Nat), i < j ∧ nx (done ++ [row]) i c = some j ∧ ∀ (i' c' j' : Nat), nx (done ++ [row]) i' c' = some j' → j ≤ j' → i < i' ∨ (i = i' ∧ c ≤ c')
theorem out_none {done : Rws} {row : List (Option Nat)} {i : Nat} (l : done.length < i) : (done ++ [row])[i]? = none := List.getElem?_eq_none (by rw [List.length_append, List.length_singleton]; omega)
theorem nx_over {done : Rws} {row : List (Option Nat)} {i c j : Nat} (h : nx (done ++ [row]) i c = some j) : i < done.length ∨ (i = done.length ∧ c < row.length) := by
  unfold nx at h
  rw [List.getD_eq_getElem?_getD, List.getD_eq_getElem?_getD] at h
  rcases Nat.lt_trichotomy i done.length with l | l | l
  · exact .inl l
  · right
    subst l
    refine ⟨rfl, ?_⟩
    rw [List.getElem?_append_right (Nat.le_refl _), Nat.sub_self, List.getElem?_cons_zero, Option.getD_some] at h
    rcases Nat.lt_or_ge c row.length with g | g
    · exact g
    · rw [List.getElem?_eq_none g] at h
      cases h
  · rw [out_none l] at h
    cases h
theorem nx_more {done : Rws} {row : List (Option Nat)} {e : Option Nat} {i c : Nat} : nx (done ++ [row ++ [e]]) i c = if i = done.length ∧ c = row.length then e else nx (done ++ [row]) i c := by
  unfold nx
  rw [List.getD_eq_getElem?_getD, List.getD_eq_getElem?_getD, List.getD_eq_getElem?_getD, List.getD_eq_getElem?_getD]
  rcases Nat.lt_trichotomy i done.length with l | l | l
  · rw [if_neg (by omega), List.getElem?_append_left l, List.getElem?_append_left l]
  · subst l
    rw [List.getElem?_append_right (Nat.le_refl _), List.getElem?_append_right (Nat.le_refl _), Nat.sub_self, List.getElem?_cons_zero, List.getElem?_cons_zero, Option.getD_some, Option.getD_some]
    rcases Nat.lt_trichotomy c row.length with g | g | g
    · rw [if_neg (by omega), List.getElem?_append_left g]
    · subst g
      rw [if_pos ⟨rfl, rfl⟩, List.getElem?_append_right (Nat.le_refl _), Nat.sub_self, List.getElem?_cons_zero, Option.getD_some]
    · rw [if_neg (by omega), List.getElem?_eq_none (by rw [List.length_append, List.length_singleton]; omega), List.getElem?_eq_none (by omega)]
  · rw [if_neg (by omega), out_none l, out_none l]
theorem nx_new {done : Rws} {i c : Nat} : nx (done ++ [[]]) i c = nx done i c := by
  unfold nx
  rw [List.getD_eq_getElem?_getD, List.getD_eq_getElem?_getD, List.getD_eq_getElem?_getD, List.getD_eq_getElem?_getD]
  rcases Nat.lt_trichotomy i done.length with l | l | l
  · rw [List.getElem?_append_left l]
  · subst l
    rw [List.getElem?_append_right (Nat.le_refl _), Nat.sub_self, List.getElem?_cons_zero, List.getElem?_eq_none (Nat.le_refl _)]
    rfl
  · rw [out_none l, List.getElem?_eq_none (show done.length ≤ i by omega)]
variable {picked nums : List Nat} {done : Rws} {row : List (Option Nat)}
theorem NI.len (h : NI rs L bl picked nums done row) : picked.length = nums.length := by
  have := congrArg List.length h.bls
  rwa [List.length_map, List.length_map] at this
theorem NI.at_ (h : NI rs L bl picked nums done row) {i p : Nat} (e : picked[i]? = some p) : ∃ b, nums[i]? = some b ∧ bl p = some b := by
  have := congrArg (fun x : List (Option Nat) => x[i]?) h.bls
  simp only [List.getElem?_map, e, Option.map_some] at this
  cases e2 : nums[i]? with
  | none =>
    rw [e2] at this
    cases this
  | some b =>
    rw [e2] at this
    exact ⟨b, rfl, Option.some.inj this⟩
theorem ni_start {b0 : Nat} (h : bl 0 = some b0) : NI rs L bl [0] [b0] [] [] where
  bls := by show [bl 0] = _; rw [h]; rfl
  nd := List.nodup_cons.mpr ⟨List.not_mem_nil, List.nodup_nil⟩
  zero := rfl
  lt := Nat.zero_le _
  wide := fun r hr => absurd hr List.not_mem_nil
  yes := fun i c j h => by
    rcases nx_over h with g | ⟨_, g⟩
    · exact absurd g (Nat.not_lt_zero _)
    · exact absurd g (Nat.not_lt_zero _)
  no := fun i c p t h => by
    rcases h with ⟨g, _⟩ | ⟨_, g⟩
    · exact absurd g (Nat.not_lt_zero _)
    · exact absurd g (Nat.not_lt_zero _)
  ord := fun j h1 h2 => by
    have : j < 1 := h2
    omega
/-- a place of a row that leads to no lot -/
theorem NI.none_ (h : NI rs L bl picked nums done row) (hd : ∀ (p t : Nat), picked[done.length]? = some p → nx rs p row.length = some t → bl t = none) : NI rs L bl picked nums done (row ++ [none]) where
  bls := h.bls
  nd := h.nd
  zero := h.zero
  lt := h.lt
  wide := h.wide
  yes := fun i c j q => by
    rw [nx_more] at q
    split at q
    · cases q
    · exact h.yes i c j q
  no := fun i c p t hi q hp ht => by
    by_cases z : i = done.length ∧ c = row.length
    · obtain ⟨rfl, rfl⟩ := z
      exact hd p t hp ht
    · rw [nx_more, if_neg z] at q
      refine h.no i c p t ?_ q hp ht
      rw [List.length_append, List.length_singleton] at hi
      omega
  ord := fun j h1 h2 => by
    obtain ⟨i, c, g1, g2, g3⟩ := h.ord j h1 h2
    have g4 := nx_over g2
    refine ⟨i, c, g1, by rw [nx_more, if_neg (by omega)]; exact g2, fun i' c' j' q hj => ?_⟩
    rw [nx_more] at q
    split at q
    · cases q
    · exact g3 i' c' j' q hj
theorem NI.some_ (h : NI rs L bl picked nums done row) {p t b j : Nat} (hp : picked[done.length]? = some p) (ht : nx rs p row.length = some t) (hb : bl t = some b) (hj : nums[j]? = some b) : NI rs L bl picked nums done (row ++ [some j]) where
  bls := h.bls
  nd := h.nd
  zero := h.zero
  lt := h.lt
  wide := h.wide
  yes := fun i c j' q => by
    by_cases z : i = done.length ∧ c = row.length
    · obtain ⟨rfl, rfl⟩ := z
      rw [nx_more, if_pos ⟨rfl, rfl⟩] at q
      cases q
      exact ⟨p, t, b, hp, ht, hb, hj⟩
    · rw [nx_more, if_neg z] at q
      exact h.yes i c j' q
  no := fun i c p' t' hi q hp' ht' => by
    by_cases z : i = done.length ∧ c = row.length
    · rw [nx_more, if_pos z] at q
      cases q
    · rw [nx_more, if_neg z] at q
      refine h.no i c p' t' ?_ q hp' ht'
      rw [List.length_append, List.length_singleton] at hi
      omega
  ord := fun j1 h1 h2 => by
    obtain ⟨i, c, g1, g2, g3⟩ := h.ord j1 h1 h2
    have g4 := nx_over g2
    refine ⟨i, c, g1, by rw [nx_more, if_neg (by omega)]; exact g2, fun i' c' j' q hj' => ?_⟩
    by_cases z : i' = done.length ∧ c' = row.length
    · omega
    · rw [nx_more, if_neg z] at q
      exact g3 i' c' j' q hj'
theorem NI.fresh (h : NI rs L bl picked nums done row) {p t b : Nat} (hp : picked[done.length]? = some p) (ht : nx rs p row.length = some t) (hb : bl t = some b) (hn : b ∉ nums) : NI rs L bl (picked ++ [t]) (nums ++ [b]) done (row ++ [some picked.length]) where
  bls := by rw [List.map_append, List.map_append, h.bls]; show _ ++ [bl t] = _; rw [hb]; rfl
  nd := by
    rw [List.nodup_append]
    refine ⟨h.nd, List.nodup_cons.mpr ⟨List.not_mem_nil, List.nodup_nil⟩, fun x hx y hy => ?_⟩
    rw [List.mem_singleton.mp hy]
    exact fun e => hn (e ▸ hx)
  zero := by
    have := (List.getElem?_eq_some_iff.mp h.zero).1
    rw [List.getElem?_append_left this]
    exact h.zero
  lt := by
    have := h.lt
    rw [List.length_append]
    omega
  wide := h.wide
  yes := fun i c j' q => by
    have hl := h.len
    by_cases z : i = done.length ∧ c = row.length
    · obtain ⟨rfl, rfl⟩ := z
      rw [nx_more, if_pos ⟨rfl, rfl⟩] at q
      cases q
      exact ⟨p, t, b, by rw [List.getElem?_append_left (List.getElem?_eq_some_iff.mp hp).1]; exact hp, ht, hb, by rw [List.getElem?_append_right (by omega), hl, Nat.sub_self]; rfl⟩
    · rw [nx_more, if_neg z] at q
      obtain ⟨p', t', b', e1, e2, e3, e4⟩ := h.yes i c j' q
      exact ⟨p', t', b', by rw [List.getElem?_append_left (List.getElem?_eq_some_iff.mp e1).1]; exact e1, e2, e3, by rw [List.getElem?_append_left (List.getElem?_eq_some_iff.mp e4).1]; exact e4⟩
  no := fun i c p' t' hi q hp' ht' => by
    have hd := (List.getElem?_eq_some_iff.mp hp).1
    by_cases z : i = done.length ∧ c = row.length
    · rw [nx_more, if_pos z] at q
      cases q
    · rw [nx_more, if_neg z] at q
      rw [List.length_append, List.length_singleton] at hi
      refine h.no i c p' t' (by omega) q ?_ ht'
      rw [List.getElem?_append_left (by omega)] at hp'
      exact hp'
  ord := fun j1 h1 h2 => by
    have hd := (List.getElem?_eq_some_iff.mp hp).1
    have hl := h.len
    rw [List.length_append, List.length_singleton] at h2
    by_cases y : j1 < picked.length
    · obtain ⟨i, c, g1, g2, g3⟩ := h.ord j1 h1 y
      have g4 := nx_over g2
      refine ⟨i, c, g1, by rw [nx_more, if_neg (by omega)]; exact g2, fun i' c' j' q hj' => ?_⟩
      by_cases z : i' = done.length ∧ c' = row.length
      · omega
      · rw [nx_more, if_neg z] at q
        exact g3 i' c' j' q hj'
    · have : j1 = picked.length := by omega
      subst this
      refine ⟨done.length, row.length, hd, by rw [nx_more, if_pos ⟨rfl, rfl⟩], fun i' c' j' q hj' => ?_⟩
      by_cases z : i' = done.length ∧ c' = row.length
      · omega
      · rw [nx_more, if_neg z] at q
        obtain ⟨_, _, _, _, _, _, e4⟩ := h.yes i' c' j' q
        have := (List.getElem?_eq_some_iff.mp e4).1
        omega
/-- a whole row -/
theorem NI.whole (h : NI rs L bl picked nums done row) (hl : row.length = L) (hd : done.length < picked.length) : NI rs L bl picked nums (done ++ [row]) [] where
  bls := h.bls
  nd := h.nd
  zero := h.zero
  lt := by
    rw [List.length_append, List.length_singleton]
    exact hd
  wide := fun r hr => by
    rcases List.mem_append.mp hr with hr | hr
    · exact h.wide r hr
    · rw [List.mem_singleton.mp hr]
      exact hl
  yes := fun i c j q => by
    rw [nx_new] at q
    exact h.yes i c j q
  no := fun i c p t hi q hp ht => by
    rw [nx_new] at q
    rw [List.length_append, List.length_singleton] at hi
    refine h.no i c p t ?_ q hp ht
    rcases hi with ⟨g1, g2⟩ | ⟨_, g⟩
    · by_cases z : i = done.length
      · right
        omega
      · left
        omega
    · exact absurd g (Nat.not_lt_zero _)
  ord := fun j h1 h2 => by
    obtain ⟨i, c, g1, g2, g3⟩ := h.ord j h1 h2
    refine ⟨i, c, g1, by rw [nx_new]; exact g2, fun i' c' j' q hj => ?_⟩
    rw [nx_new] at q
    exact g3 i' c' j' q hj
theorem nodup_at {xs : List Nat} (h : xs.Nodup) {i j b : Nat} (h1 : xs[i]? = some b) (h2 : xs[j]? = some b) : i = j := by
  have l1 := (List.getElem?_eq_some_iff.mp h1).1
  exact (List.getElem?_inj l1 h).mp (h1.trans h2.symm)
/-- all rows made: the smallest machine -/
theorem NI.canon (h : NI rs L bl picked nums done []) (B : PB rs es L bl) (hd : done.length = picked.length) : Canon rs es L picked done (picked.map fun p => es.getD p false) where
  lo := hd
  le := List.length_map _
  zero := h.zero
  live := fun p hp => by
    obtain ⟨i, hi⟩ := List.mem_iff_getElem?.mp hp
    obtain ⟨b, _, hb⟩ := h.at_ hi
    exact (B.inn p b hb).2
  one := fun i j p q hp hq e => by
    obtain ⟨b, h1, h2⟩ := h.at_ hp
    obtain ⟨b', h3, h4⟩ := h.at_ hq
    have := (B.same p q b h2).mpr ⟨⟨b', h4⟩, e⟩
    rw [h4] at this
    have := Option.some.inj this
    subst this
    exact nodup_at h.nd h1 h3
  wide := h.wide
  ends := fun i p hp => by
    rw [List.getElem?_map, hp]
    rfl
  some_ := fun i p c j hp hj => by
    rw [← nx_new] at hj
    obtain ⟨p', t, b, e1, e2, e3, e4⟩ := h.yes i c j hj
    have : p' = p := Option.some.inj (e1.symm.trans hp)
    subst this
    have hjl := (List.getElem?_eq_some_iff.mp e4).1
    rw [← h.len] at hjl
    obtain ⟨b', f1, f2⟩ := h.at_ (List.getElem?_eq_getElem hjl)
    have : b' = b := Option.some.inj (f1.symm.trans e4)
    subst this
    exact ⟨t, _, ⟨e2, (B.inn t b' e3).2⟩, List.getElem?_eq_getElem hjl, ((B.same t _ b' e3).mp f2).2⟩
  none_ := fun i p c t hp hc hn w => by
    rw [← nx_new] at hn
    have hi := (List.getElem?_eq_some_iff.mp hp).1
    have := h.no i c p t (.inl ⟨by omega, hc⟩) hn hp w.1
    obtain ⟨b, _, hb⟩ := h.at_ hp
    obtain ⟨b', hb'⟩ := B.on p b c t hb w
    rw [this] at hb'
    cases hb'
  over := fun p c t _ w => (nx_lt B.wide w.1).2.1
  ord := fun j h1 h2 => by
    obtain ⟨i, c, g1, g2, g3⟩ := h.ord j h1 h2
    rw [nx_new] at g2
    refine ⟨i, c, g1, g2, fun i' c' j' q hj => ?_⟩
    rw [← nx_new] at q
    exact g3 i' c' j' q hj
end
/-! ### lots that are split: the lists that hold them -/
theorem cnt_in : ∀ (xs : List Nat), xs.Nodup → ∀ ys : List Nat, ys.Nodup → (∀ y ∈ ys, y ∈ xs) → (xs.filter fun x => decide (x ∈ ys)).length = ys.length
  | [], _, ys, _, h => by
    cases ys with
    | nil => rfl
    | cons y ys => exact absurd (h y List.mem_cons_self) List.not_mem_nil
  | x :: xs, nd, ys, ndy, h => by
    obtain ⟨n1, n2⟩ := List.nodup_cons.mp nd
    by_cases hx : x ∈ ys
    · have e : xs.filter (fun z => decide (z ∈ ys)) = xs.filter (fun z => decide (z ∈ ys.erase x)) := List.filter_congr fun z hz => by
        have zx : z ≠ x := fun e => n1 (e ▸ hz)
        rw [decide_eq_decide]
        exact (List.mem_erase_of_ne zx).symm
      have ih := cnt_in xs n2 (ys.erase x) (ndy.erase x) fun y hy => by
        have h1 := h y (List.mem_of_mem_erase hy)
        rcases List.mem_cons.mp h1 with rfl | h1
        · exact absurd hy (ndy.not_mem_erase)
        · exact h1
      rw [List.filter_cons, if_pos (decide_eq_true hx), List.length_cons, e, ih, List.length_erase_of_mem hx]
      have := List.length_pos_of_mem hx
      omega
    · rw [List.filter_cons, if_neg (by rw [decide_eq_true_eq]; exact hx)]
      exact cnt_in xs n2 ys ndy fun y hy => by
        rcases List.mem_cons.mp (h y hy) with rfl | h1
        · exact absurd hy hx
        · exact h1
theorem cnt_split (p : Nat → Bool) : ∀ xs : List Nat, (xs.filter p).length + (xs.filter fun x => !(p x)).length = xs.length
  | [] => rfl
  | x :: xs => by
    have ih := cnt_split p xs
    rw [List.filter_cons, List.filter_cons]
    cases p x
    · rw [if_neg (by decide), if_pos (by decide), List.length_cons, List.length_cons]
      omega
    · rw [if_pos (by decide), if_neg (by decide), List.length_cons, List.length_cons]
      omega
theorem cnt_out {xs ys : List Nat} (nx : xs.Nodup) (ny : ys.Nodup) (h : ∀ y ∈ ys, y ∈ xs) : (xs.filter fun x => !(decide (x ∈ ys))).length + ys.length = xs.length := by
  have h1 := cnt_in xs nx ys ny h
  have h2 := cnt_split (fun x => decide (x ∈ ys)) xs
  omega
theorem cnt_all {xs ys : List Nat} (nx : xs.Nodup) (ny : ys.Nodup) (h : ∀ y ∈ ys, y ∈ xs) (l : xs.length ≤ ys.length) : ∀ x ∈ xs, x ∈ ys := fun x hx => by
  have h1 := cnt_out nx ny h
  have h2 : xs.filter (fun x => !(decide (x ∈ ys))) = [] := List.eq_nil_of_length_eq_zero (by omega)
  by_cases z : x ∈ ys
  · exact z
  · have : x ∈ xs.filter (fun x => !(decide (x ∈ ys))) := List.mem_filter.mpr ⟨hx, by rw [decide_eq_false z]; rfl⟩
    rw [h2] at this
    exact absurd this List.not_mem_nil
def bv (block : List (Option Nat)) (s : Nat) : Option Nat := block.getD s none
def isB (block : List (Option Nat)) (b s : Nat) : Bool := decide (bv block s = some b)
/-- the lists go along with one another -/
structure RI (n T : Nat) (block : List (Option Nat)) (mem : List (List Nat)) (sizes : List Nat) : Prop where
  lb : block.length = n
  ms : mem.length = sizes.length
  lt : ∀ s b, bv block s = some b → b < mem.length
  sub : ∀ s b, bv block s = some b → s ∈ mem.getD b []
  nd : ∀ b, (mem.getD b []).Nodup
  szs : ∀ b, b < mem.length → sizes.getD b 0 = ((mem.getD b []).filter (isB block b)).length
  pos : ∀ z ∈ sizes, 1 ≤ z
  sum : sizes.sum = T
  inn : ∀ b s, s ∈ mem.getD b [] → s < n
theorem sum_ge : ∀ {zs : List Nat}, (∀ z ∈ zs, 1 ≤ z) → zs.length ≤ zs.sum
  | [], _ => Nat.le_refl _
  | z :: zs, h => by
    have h1 := sum_ge fun y hy => h y (List.mem_cons_of_mem z hy)
    have h2 := h z List.mem_cons_self
    rw [List.sum_cons, List.length_cons]
    omega
theorem RI.many {n T : Nat} {block : List (Option Nat)} {mem : List (List Nat)} {sizes : List Nat} (h : RI n T block mem sizes) : mem.length ≤ T := by
  rw [h.ms, ← h.sum]
  exact sum_ge h.pos
/-- each of the moved gets the new number -/
def mark (m : Nat) (block : List (Option Nat)) (moved : List Nat) : List (Option Nat) := moved.foldl (fun b s => b.set s (some m)) block
theorem mark_len (m : Nat) : ∀ (moved : List Nat) (block : List (Option Nat)), (mark m block moved).length = block.length
  | [], _ => rfl
  | s :: moved, block => by
    show (mark m (block.set s (some m)) moved).length = _
    rw [mark_len m moved, List.length_set]
theorem bv_set {block : List (Option Nat)} {s t : Nat} {v : Option Nat} (h : s < block.length) : bv (block.set s v) t = if t = s then v else bv block t := by
  unfold bv
  rw [List.getD_eq_getElem?_getD, List.getD_eq_getElem?_getD, List.getElem?_set]
  by_cases e : s = t
  · subst e
    rw [if_pos rfl, if_pos h, if_pos rfl]
    rfl
  · rw [if_neg e, if_neg (fun z => e z.symm)]
theorem bv_mark (m : Nat) : ∀ (moved : List Nat) (block : List (Option Nat)), (∀ s ∈ moved, s < block.length) → ∀ t, bv (mark m block moved) t = if t ∈ moved then some m else bv block t
  | [], _, _, t => by
    rw [if_neg List.not_mem_nil]
    rfl
  | s :: moved, block, h, t => by
    show bv (mark m (block.set s (some m)) moved) t = _
    have hs := h s List.mem_cons_self
    rw [bv_mark m moved _ (fun z hz => by rw [List.length_set]; exact h z (List.mem_cons_of_mem s hz)) t, bv_set hs]
    by_cases e1 : t ∈ moved
    · rw [if_pos e1, if_pos (List.mem_cons_of_mem s e1)]
    · rw [if_neg e1]
      by_cases e2 : t = s
      · rw [if_pos e2, if_pos (by rw [e2]; exact List.mem_cons_self)]
      · rw [if_neg e2, if_neg (by rw [List.mem_cons]; exact fun q => q.elim e2 e1)]
theorem bv_lt {block : List (Option Nat)} {s b : Nat} (h : bv block s = some b) : s < block.length := by
  unfold bv at h
  rw [List.getD_eq_getElem?_getD] at h
  rcases Nat.lt_or_ge s block.length with l | l
  · exact l
  · rw [List.getElem?_eq_none l] at h
    cases h
section
variable {n T : Nat} {block : List (Option Nat)} {mem : List (List Nat)} {sizes : List Nat}
theorem getD_at {α : Type} {xs : List α} {i : Nat} {d : α} (h : i < xs.length) : xs.getD i d = xs[i] := by
  rw [List.getD_eq_getElem?_getD, List.getElem?_eq_getElem h]
  rfl
theorem sum_set : ∀ {zs : List Nat} {i v : Nat} (h : i < zs.length), (zs.set i v).sum + zs[i] = zs.sum + v
  | z :: zs, 0, v, _ => by
    rw [List.set_cons_zero, List.sum_cons, List.sum_cons, List.getElem_cons_zero]
    omega
  | z :: zs, i + 1, v, h => by
    have h' : i < zs.length := by
      rw [List.length_cons] at h
      omega
    have := sum_set (v := v) h'
    rw [List.set_cons_succ, List.sum_cons, List.sum_cons, List.getElem_cons_succ]
    omega
theorem RI.szs' (h : RI n T block mem sizes) {b : Nat} (hb : b < mem.length) (hb' : b < sizes.length) : sizes[b] = ((mem.getD b []).filter (isB block b)).length := by
  rw [← h.szs b hb, getD_at hb']
/-- a part of a lot gets a number of its own -/
theorem RI.move (h : RI n T block mem sizes) {old : Nat} {moved : List Nat} (ho : old < mem.length) (nd : moved.Nodup) (hm : ∀ s ∈ moved, bv block s = some old) (h1 : 1 ≤ moved.length) (h2 : moved.length < sizes.getD old 0) :
    RI n T (mark mem.length block moved) (mem ++ [moved]) ((sizes ++ [moved.length]).set old (sizes.getD old 0 - moved.length)) := by
  have hms := h.ms
  have hos : old < sizes.length := by omega
  have hin : ∀ s ∈ moved, s < block.length := fun s hs => bv_lt (hm s hs)
  have bvm := bv_mark mem.length moved block hin
  have gm : ∀ b, b < mem.length → (mem ++ [moved]).getD b [] = mem.getD b [] := fun b hb => by
    rw [List.getD_eq_getElem?_getD, List.getElem?_append_left hb, List.getD_eq_getElem?_getD]
  have gn : (mem ++ [moved]).getD mem.length [] = moved := by
    rw [List.getD_eq_getElem?_getD, List.getElem?_append_right (Nat.le_refl _), Nat.sub_self]
    rfl
  have hz := getD_at (d := 0) hos
  have gs : (sizes ++ [moved.length])[old]'(by rw [List.length_append]; omega) = sizes[old] := List.getElem_append_left hos
  refine ⟨?_, ?_, fun s b e => ?_, fun s b e => ?_, fun b => ?_, fun b hb => ?_, fun z hz' => ?_, ?_, fun b s hs => ?_⟩
  · rw [mark_len, h.lb]
  · rw [List.length_append, List.length_set, List.length_append, hms]
    rfl
  · rw [bvm] at e
    rw [List.length_append, List.length_singleton]
    split at e
    · have := Option.some.inj e
      omega
    · have := h.lt s b e
      omega
  · rw [bvm] at e
    split at e
    · have := Option.some.inj e
      subst this
      rw [gn]
      assumption
    · rw [gm b (h.lt s b e)]
      exact h.sub s b e
  · rcases Nat.lt_trichotomy b mem.length with l | l | l
    · rw [gm b l]
      exact h.nd b
    · rw [l, gn]
      exact nd
    · rw [List.getD_eq_getElem?_getD, List.getElem?_eq_none (by rw [List.length_append, List.length_singleton]; omega)]
      exact List.nodup_nil
  · rw [List.length_append, List.length_singleton] at hb
    by_cases e1 : b = mem.length
    · rw [e1, gn, List.filter_eq_self.mpr (fun s hs => by unfold isB; rw [bvm, if_pos hs]; exact decide_eq_true rfl), List.getD_eq_getElem?_getD, List.getElem?_set_ne (by omega), List.getElem?_append_right (by omega), hms, Nat.sub_self]
      rfl
    · have hb1 : b < mem.length := by omega
      rw [gm b hb1]
      by_cases e2 : b = old
      · subst e2
        have e3 : (mem.getD b []).filter (isB (mark mem.length block moved) b) = ((mem.getD b []).filter (isB block b)).filter fun x => !(decide (x ∈ moved)) := by
          rw [List.filter_filter]
          refine List.filter_congr fun s hs => ?_
          unfold isB
          rw [bvm]
          by_cases z : s ∈ moved
          · rw [if_pos z, decide_eq_true z]
            exact decide_eq_false (fun q => e1 (Option.some.inj q).symm)
          · rw [if_neg z, decide_eq_false z]
            rfl
        have e4 := cnt_out ((h.nd b).filter (isB block b)) nd fun y hy => List.mem_filter.mpr ⟨h.sub y b (hm y hy), decide_eq_true (hm y hy)⟩
        have e5 := h.szs b hb1
        rw [e3, List.getD_eq_getElem?_getD, List.getElem?_set_self (by rw [List.length_append]; omega), Option.getD_some]
        omega
      · have e3 : (mem.getD b []).filter (isB (mark mem.length block moved) b) = (mem.getD b []).filter (isB block b) := List.filter_congr fun s hs => by
          unfold isB
          rw [bvm]
          by_cases z : s ∈ moved
          · rw [if_pos z, decide_eq_false (fun q => e1 (Option.some.inj q).symm), decide_eq_false (fun q => e2 (Option.some.inj (q.symm.trans (hm s z))))]
          · rw [if_neg z]
        rw [e3, ← h.szs b hb1, List.getD_eq_getElem?_getD, List.getElem?_set_ne (fun q => e2 q.symm), List.getElem?_append_left (by omega), List.getD_eq_getElem?_getD]
  · rcases List.mem_or_eq_of_mem_set hz' with q | q
    · rcases List.mem_append.mp q with q | q
      · exact h.pos z q
      · rw [List.mem_singleton.mp q]
        exact h1
    · omega
  · have e1 := sum_set (zs := sizes ++ [moved.length]) (v := sizes.getD old 0 - moved.length) (show old < (sizes ++ [moved.length]).length by rw [List.length_append]; omega)
    rw [gs, List.sum_append] at e1
    have e2 := h.sum
    have e3 : [moved.length].sum = moved.length := by simp
    omega
  · rcases Nat.lt_trichotomy b mem.length with l | l | l
    · rw [gm b l] at hs
      exact h.inn b s hs
    · rw [l, gn] at hs
      rw [← h.lb]
      exact hin s hs
    · rw [List.getD_eq_getElem?_getD, List.getElem?_eq_none (by rw [List.length_append, List.length_singleton]; omega)] at hs
      exact absurd hs List.not_mem_nil
/-- those that went away from a lot are dropped from its list -/
theorem RI.clean (h : RI n T block mem sizes) {b : Nat} (hb : b < mem.length) : RI n T block (mem.set b ((mem.getD b []).filter (isB block b))) sizes := by
  have g : ∀ c, (mem.set b ((mem.getD b []).filter (isB block b))).getD c [] = if c = b then (mem.getD b []).filter (isB block b) else mem.getD c [] := fun c => by
    rw [List.getD_eq_getElem?_getD]
    by_cases e : c = b
    · rw [e, List.getElem?_set_self hb, if_pos rfl]
      rfl
    · rw [List.getElem?_set_ne (fun z => e z.symm), if_neg e, List.getD_eq_getElem?_getD]
  refine ⟨h.lb, by rw [List.length_set]; exact h.ms, fun s c e => by rw [List.length_set]; exact h.lt s c e, fun s c e => ?_, fun c => ?_, fun c hc => ?_, h.pos, h.sum, fun c s hs => ?_⟩
  · rw [g]
    split
    · rename_i q
      rw [q] at e
      exact List.mem_filter.mpr ⟨h.sub s b e, decide_eq_true e⟩
    · exact h.sub s c e
  · rw [g]
    split
    · exact (h.nd b).filter _
    · exact h.nd c
  · rw [List.length_set] at hc
    rw [h.szs c hc, g]
    split
    · rename_i q
      rw [q, List.filter_filter]
      simp
    · rfl
  · rw [g] at hs
    split at hs
    · exact h.inn b s (List.mem_filter.mp hs).1
    · exact h.inn c s hs
end
/-! ### splitting, without the lists -/
/-- in S just one of the two -/
def Oddly (S : Nat → Prop) (p q : Nat) : Prop := (S p ∧ ¬ S q) ∨ (¬ S p ∧ S q)
/-- two of one lot that c leads to unlike lots: one of these waits, or c has still to be looked at -/
def Inv (rs : Rws) (bl : Nat → Option Nat) (wt : Nat → Prop) (S : Nat → Prop) (c0 : Nat) : Prop :=
  ∀ (s t b c p q bp bq : Nat), bl s = some b → bl t = some b → nx rs s c = some p → nx rs t c = some q → bl p = some bp → bl q = some bq → bp ≠ bq → wt bp ∨ wt bq ∨ (c0 ≤ c ∧ Oddly S p q)
/-- states with the same words are in one lot -/
def Sound (rs : Rws) (es : List Bool) (bl : Nat → Option Nat) : Prop := ∀ (s t b b' : Nat), bl s = some b → bl t = some b' → Eqv rs es rs es s t → b = b'
/-- two of one lot end alike, and are led to lots alike -/
def Alike (rs : Rws) (es : List Bool) (bl : Nat → Option Nat) : Prop := ∀ (s t b : Nat), bl s = some b → bl t = some b → es.getD s false = es.getD t false ∧ ∀ c p b', nx rs s c = some p → bl p = some b' → ∃ q b2, nx rs t c = some q ∧ bl q = some b2
/-- bl' is bl but for the moved, which get m -/
structure Moved (bl bl' : Nat → Option Nat) (old m : Nat) (M : Nat → Prop) : Prop where
  all : ∀ s, M s → bl s = some old
  new : ∀ s, bl s ≠ some m
  yes : ∀ s, M s → bl' s = some m
  no : ∀ s, ¬ M s → bl' s = bl s
section
variable {rs : Rws} {es : List Bool} {bl bl' : Nat → Option Nat} {wt wt' S M : Nat → Prop} {old m c0 : Nat}
theorem Moved.of (h : Moved bl bl' old m M) {s b : Nat} (e : bl' s = some b) : ∃ b0, bl s = some b0 ∧ ((M s ∧ b0 = old ∧ b = m) ∨ (¬ M s ∧ b0 = b ∧ b ≠ m)) := by
  by_cases z : M s
  · have := h.yes s z
    rw [this] at e
    exact ⟨old, h.all s z, .inl ⟨z, rfl, (Option.some.inj e).symm⟩⟩
  · rw [h.no s z] at e
    exact ⟨b, e, .inr ⟨z, rfl, fun q => h.new s (q ▸ e)⟩⟩
theorem Moved.dom (h : Moved bl bl' old m M) (s : Nat) : (∃ b, bl' s = some b) ↔ ∃ b, bl s = some b := by
  by_cases z : M s
  · exact ⟨fun _ => ⟨_, h.all s z⟩, fun _ => ⟨_, h.yes s z⟩⟩
  · rw [h.no s z]
theorem Moved.one (h : Moved bl bl' old m M) {s t b : Nat} (e : bl' s = some b) (f : bl' t = some b) : ∃ b0, bl s = some b0 ∧ bl t = some b0 ∧ (M s ↔ M t) := by
  obtain ⟨b1, h1, g1⟩ := h.of e
  obtain ⟨b2, h2, g2⟩ := h.of f
  rcases g1 with ⟨m1, x1, y1⟩ | ⟨m1, x1, y1⟩
  · rcases g2 with ⟨m2, x2, y2⟩ | ⟨m2, x2, y2⟩
    · exact ⟨old, x1 ▸ h1, x2 ▸ h2, ⟨fun _ => m2, fun _ => m1⟩⟩
    · exact absurd y1 y2
  · rcases g2 with ⟨m2, x2, y2⟩ | ⟨m2, x2, y2⟩
    · exact absurd y2 y1
    · exact ⟨b, x1 ▸ h1, x2 ▸ h2, ⟨fun q => absurd q m1, fun q => absurd q m2⟩⟩
theorem Inv.move (h : Inv rs bl wt S c0) (mv : Moved bl bl' old m M) (w1 : wt old → wt' old ∧ wt' m) (w2 : wt' old ∨ wt' m) (w3 : ∀ b, b ≠ old → b ≠ m → wt b → wt' b) (w4 : ¬ wt m) : Inv rs bl' wt' S c0 := by
  intro s t b c p q bp bq es et hp hq ep eq ne
  obtain ⟨b0, h1, h2, _⟩ := mv.one es et
  obtain ⟨b1, h3, g3⟩ := mv.of ep
  obtain ⟨b2, h4, g4⟩ := mv.of eq
  have up : ∀ {y z x : Nat}, wt y → ((M x ∧ y = old ∧ z = m) ∨ (¬ M x ∧ y = z ∧ z ≠ m)) → wt' z := fun {y z x} hw g => by
    rcases g with ⟨_, e1, e2⟩ | ⟨_, e1, e2⟩
    · rw [e2]
      exact (w1 (e1 ▸ hw)).2
    · rw [← e1]
      by_cases q : y = old
      · rw [q]
        exact (w1 (q ▸ hw)).1
      · exact w3 _ q (by rw [e1]; exact e2) hw
  by_cases z : b1 = b2
  · have key : wt' bp ∨ wt' bq := by
      rcases g3 with ⟨m1, x1, y1⟩ | ⟨m1, x1, y1⟩
      · rcases g4 with ⟨m2, x2, y2⟩ | ⟨m2, x2, y2⟩
        · exact absurd (y1.trans y2.symm) ne
        · rw [y1, ← x2, ← z, x1]
          exact w2.symm
      · rcases g4 with ⟨m2, x2, y2⟩ | ⟨m2, x2, y2⟩
        · rw [y2, ← x1, z, x2]
          exact w2
        · exact absurd (x1.symm.trans (z.trans x2)) ne
    rcases key with k | k
    · exact .inl k
    · exact .inr (.inl k)
  · rcases h s t b0 c p q b1 b2 h1 h2 hp hq h3 h4 z with k | k | k
    · exact .inl (up k g3)
    · exact .inr (.inl (up k g4))
    · exact .inr (.inr k)
theorem Inv.start {x : Nat} {L : Nat} {S0 : Nat → Prop} (h : Inv rs bl wt S0 L) (wide : ∀ r ∈ rs, r.length = L) (hS : ∀ s, S s ↔ bl s = some x) (hw : ∀ b, wt b → b ≠ x → wt' b) : Inv rs bl wt' S 0 := by
  intro s t b c p q bp bq es et hp hq ep eq ne
  by_cases z1 : bp = x
  · refine .inr (.inr ⟨Nat.zero_le _, .inl ⟨(hS p).mpr (z1 ▸ ep), fun k => ?_⟩⟩)
    have := (hS q).mp k
    rw [eq] at this
    exact ne (z1.trans (Option.some.inj this).symm)
  · by_cases z2 : bq = x
    · refine .inr (.inr ⟨Nat.zero_le _, .inr ⟨fun k => ?_, (hS q).mpr (z2 ▸ eq)⟩⟩)
      have := (hS p).mp k
      rw [ep] at this
      exact z1 (Option.some.inj this)
    · rcases h s t b c p q bp bq es et hp hq ep eq ne with k | k | k
      · exact .inl (hw _ k z1)
      · exact .inr (.inl (hw _ k z2))
      · have := (nx_lt wide hp).2.1
        omega
/-- no two of one lot are told apart by being led into S -/
def Sep (bl : Nat → Option Nat) (M : Nat → Prop) : Prop := ∀ (s t b : Nat), bl s = some b → bl t = some b → (M s ↔ M t)
theorem Inv.letter (h : Inv rs bl wt S c0) (hM : ∀ (s p b b' : Nat), bl s = some b → nx rs s c0 = some p → bl p = some b' → (M s ↔ S p)) (sep : Sep bl M) : Inv rs bl wt S (c0 + 1) := by
  intro s t b c p q bp bq es et hp hq ep eq ne
  rcases h s t b c p q bp bq es et hp hq ep eq ne with k | k | ⟨k1, k2⟩
  · exact .inl k
  · exact .inr (.inl k)
  · by_cases z : c = c0
    · subst z
      have e1 := hM s p b bp es hp ep
      have e2 := hM t q b bq et hq eq
      have e3 := sep s t b es et
      exfalso
      rcases k2 with ⟨k, k'⟩ | ⟨k, k'⟩
      · exact k' (e2.mp (e3.mp (e1.mpr k)))
      · exact k (e1.mp (e3.mpr (e2.mpr k')))
    · exact .inr (.inr ⟨by omega, k2⟩)
/-- a lot of which no two ever were the same, cut by what is the same for the same -/
theorem Sound.move (h : Sound rs es bl) (mv : Moved bl bl' old m M) (hM : ∀ (s t : Nat), bl s = some old → bl t = some old → Eqv rs es rs es s t → M s → M t) : Sound rs es bl' := by
  intro s t b b' es' et e
  obtain ⟨b1, h1, g1⟩ := mv.of es'
  obtain ⟨b2, h2, g2⟩ := mv.of et
  have eb := h s t b1 b2 h1 h2 e
  rcases g1 with ⟨m1, x1, y1⟩ | ⟨m1, x1, y1⟩
  · rcases g2 with ⟨m2, x2, y2⟩ | ⟨m2, x2, y2⟩
    · exact y1.trans y2.symm
    · exact absurd (hM s t (by rw [h1, x1]) (by rw [h2, ← eb, x1]) e m1) m2
  · rcases g2 with ⟨m2, x2, y2⟩ | ⟨m2, x2, y2⟩
    · exact absurd (hM t s (by rw [h2, x2]) (by rw [h1, eb, x2]) e.symm m2) m1
    · exact x1.symm.trans (eb.trans x2)
theorem Alike.move (h : Alike rs es bl) (mv : Moved bl bl' old m M) : Alike rs es bl' := by
  intro s t b e1 e2
  obtain ⟨b0, h1, h2, _⟩ := mv.one e1 e2
  obtain ⟨k1, k2⟩ := h s t b0 h1 h2
  refine ⟨k1, fun c p b' hp hb => ?_⟩
  obtain ⟨b3, hb3⟩ := (mv.dom p).mp ⟨b', hb⟩
  obtain ⟨q, b4, hq, hb4⟩ := k2 c p b3 hp hb3
  obtain ⟨b5, hb5⟩ := (mv.dom q).mpr ⟨b4, hb4⟩
  exact ⟨q, b5, hq, hb5⟩
/-- nothing waits: two of one lot have the same words -/
theorem inv_done {S0 : Nat → Prop} {L : Nat} (h : Inv rs bl wt S0 L) (wide : ∀ r ∈ rs, r.length = L) (al : Alike rs es bl) (nw : ∀ b, ¬ wt b) (on : ∀ (s b c t : Nat), bl s = some b → Way rs es s c t → ∃ b', bl t = some b') : ∀ (w : List Nat) (s t b : Nat), bl s = some b → bl t = some b → acc rs es w s = true → acc rs es w t = true
  | [], s, t, b, hs, ht, e => by
    show es.getD t false = true
    rw [← (al s t b hs ht).1]
    exact e
  | c :: w, s, t, b, hs, ht, e => by
    cases ep : nx rs s c with
    | none =>
      rw [acc_none ep] at e
      cases e
    | some p =>
      rw [acc_cons ep] at e
      obtain ⟨bp, hbp⟩ := on s b c p hs ⟨ep, w, e⟩
      obtain ⟨q, bq, eq, hbq⟩ := (al s t b hs ht).2 c p bp ep hbp
      rw [acc_cons eq]
      by_cases z : bp = bq
      · exact inv_done h wide al nw on w p q bp hbp (z ▸ hbq) e
      · rcases h s t b c p q bp bq hs ht ep eq hbp hbq z with k | k | ⟨k, _⟩
        · exact absurd k (nw _)
        · exact absurd k (nw _)
        · have := (nx_lt wide ep).2.1
          omega
/-- so the lots are right -/
theorem pb_done {S0 : Nat → Prop} {L : Nat} (h : Inv rs bl wt S0 L) (wide : ∀ r ∈ rs, r.length = L) (tgt : ∀ r ∈ rs, ∀ t, some t ∈ r → t < rs.length) (al : Alike rs es bl) (so : Sound rs es bl) (nw : ∀ b, ¬ wt b) (inn : ∀ (s b : Nat), bl s = some b → s < rs.length ∧ Live rs es s)
    (on : ∀ (s b c t : Nat), bl s = some b → Way rs es s c t → ∃ b', bl t = some b') : PB rs es L bl where
  wide := wide
  tgt := tgt
  inn := inn
  same := fun s t b hs => by
    refine ⟨fun ht => ⟨⟨b, ht⟩, fun w => ?_⟩, fun ⟨⟨b', hb'⟩, e⟩ => ?_⟩
    · have h1 := inv_done h wide al nw on w s t b hs ht
      have h2 := inv_done h wide al nw on w t s b ht hs
      cases e1 : acc rs es w s with
      | true => exact (h1 e1).symm
      | false =>
        cases e2 : acc rs es w t with
        | false => rfl
        | true =>
          rw [h2 e2] at e1
          cases e1
    · rw [so s t b b' hs hb' e]
      exact hb'
  on := on
end
/-! ### splitting, with the lists -/
def wv (wait : List Bool) (b : Nat) : Prop := wait.getD b false = true
structure TI (rs : Rws) (es : List Bool) (R : Nat → Prop) (T : Nat) (block : List (Option Nat)) (mem : List (List Nat)) (sizes : List Nat) (wait : List Bool) (queue : List Nat) (k : Int) (S : Nat → Prop) (c0 : Nat) : Prop where
  ri : RI rs.length T block mem sizes
  wl : wait.length = mem.length
  qn : queue.Nodup
  qw : ∀ b, b ∈ queue ↔ wv wait b
  ql : (queue.length : Int) = mem.length + k
  inv : Inv rs (bv block) (wv wait) S c0
  so : Sound rs es (bv block)
  al : Alike rs es (bv block)
  dom : ∀ s, (∃ b, bv block s = some b) ↔ (R s ∧ Live rs es s)
/-- what was touched, by lots -/
structure TG (P0 : Nat → Option Nat) (touched : List (Nat × List Nat)) (srcs : List Nat) : Prop where
  nd : (touched.map Prod.fst).Nodup
  els : ∀ k l, (k, l) ∈ touched → l = srcs.filter (fun s => decide (P0 s = some k)) ∧ l ≠ []
  all : ∀ s ∈ srcs, ∀ k, P0 s = some k → k ∈ touched.map Prod.fst
structure MI (P0 : Nat → Option Nat) (touched : List (Nat × List Nat)) (srcs : List Nat) (i : Nat) (bl : Nat → Option Nat) : Prop where
  ref : ∀ (s t b : Nat), bl s = some b → bl t = some b → P0 s = P0 t
  sep : ∀ (s t b k : Nat), bl s = some b → bl t = some b → P0 s = some k → (∀ (j : Nat) (l : List Nat), i ≤ j → touched[j]? ≠ some (k, l)) → (s ∈ srcs ↔ t ∈ srcs)
  rest : ∀ (j k : Nat) (l : List Nat), i ≤ j → touched[j]? = some (k, l) → ∀ s, P0 s = some k ↔ bl s = some k
section
variable {P0 bl : Nat → Option Nat} {touched : List (Nat × List Nat)} {srcs : List Nat}
theorem tg_start : TG P0 [] [] := ⟨List.nodup_nil, fun _ _ h => absurd h List.not_mem_nil, fun _ h => absurd h List.not_mem_nil⟩
/-- a first one of its lot -/
theorem TG.fresh (h : TG P0 touched srcs) {s k : Nat} (hs : P0 s = some k) (hk : k ∉ touched.map Prod.fst) : TG P0 (touched ++ [(k, [s])]) (srcs ++ [s]) where
  nd := by
    rw [List.map_append, List.nodup_append]
    refine ⟨h.nd, List.nodup_cons.mpr ⟨List.not_mem_nil, List.nodup_nil⟩, fun x hx y hy => ?_⟩
    rw [List.mem_singleton.mp hy]
    exact fun e => hk ((show x = k from e) ▸ hx)
  els := fun k' l hm => by
    rw [List.filter_append]
    rcases List.mem_append.mp hm with hm | hm
    · obtain ⟨e, ne⟩ := h.els k' l hm
      have : k' ≠ k := fun z => hk (List.mem_map.mpr ⟨(k', l), hm, z⟩)
      rw [List.filter_cons, if_neg (by rw [decide_eq_true_eq, hs]; exact fun z => this (Option.some.inj z).symm), List.filter_nil, List.append_nil]
      exact ⟨e, ne⟩
    · cases List.mem_singleton.mp hm
      have e : srcs.filter (fun s => decide (P0 s = some k)) = [] := List.filter_eq_nil_iff.mpr fun x hx z => hk (h.all x hx k (of_decide_eq_true z))
      rw [e, List.filter_cons, if_pos (decide_eq_true hs), List.filter_nil]
      exact ⟨rfl, List.cons_ne_nil _ _⟩
  all := fun x hx k' e => by
    rw [List.map_append]
    rcases List.mem_append.mp hx with hx | hx
    · exact List.mem_append.mpr (.inl (h.all x hx k' e))
    · rw [List.mem_singleton.mp hx, hs] at e
      cases e
      exact List.mem_append.mpr (.inr List.mem_cons_self)
/-- one more of a lot that was touched -/
theorem TG.more (h : TG P0 touched srcs) {s k i : Nat} {l : List Nat} (hs : P0 s = some k) (hi : touched[i]? = some (k, l)) : TG P0 (touched.set i (k, l ++ [s])) (srcs ++ [s]) where
  nd := by
    have : (touched.set i (k, l ++ [s])).map Prod.fst = touched.map Prod.fst := by
      rw [List.map_set]
      have hl := (List.getElem?_eq_some_iff.mp hi).1
      refine List.ext_getElem? fun j => ?_
      rw [List.getElem?_set]
      split
      · rename_i e
        subst e
        rw [if_pos (by rw [List.length_map]; exact hl), List.getElem?_map, hi]
        rfl
      · rfl
    rw [this]
    exact h.nd
  els := fun k' l' hm => by
    have hl := (List.getElem?_eq_some_iff.mp hi).1
    have one : ∀ j x, touched[j]? = some (k, x) → j = i := fun j x hj => by
      have lj := (List.getElem?_eq_some_iff.mp hj).1
      have := (List.getElem?_inj (by rw [List.length_map]; exact lj) h.nd).mp (show (touched.map Prod.fst)[j]? = (touched.map Prod.fst)[i]? by rw [List.getElem?_map, List.getElem?_map, hj, hi]; rfl)
      exact this
    obtain ⟨e0, n0⟩ := h.els k l (List.mem_of_getElem? hi)
    rw [List.filter_append]
    obtain ⟨j, hj⟩ := List.mem_iff_getElem?.mp hm
    rw [List.getElem?_set] at hj
    split at hj
    · cases hj
      rw [List.filter_cons, if_pos (decide_eq_true hs), List.filter_nil, ← e0]
      exact ⟨rfl, fun z => by cases List.append_eq_nil_iff.mp z with | intro _ z2 => cases z2⟩
    · rename_i ne
      have hk : k' ≠ k := fun z => ne (one j l' (z ▸ hj)).symm
      obtain ⟨e1, n1⟩ := h.els k' l' (List.mem_of_getElem? hj)
      rw [List.filter_cons, if_neg (by rw [decide_eq_true_eq, hs]; exact fun z => hk (Option.some.inj z).symm), List.filter_nil, List.append_nil]
      exact ⟨e1, n1⟩
  all := fun x hx k' e => by
    have hl := (List.getElem?_eq_some_iff.mp hi).1
    have eq : (touched.set i (k, l ++ [s])).map Prod.fst = touched.map Prod.fst := by
      rw [List.map_set]
      refine List.ext_getElem? fun j => ?_
      rw [List.getElem?_set]
      split
      · rename_i e
        subst e
        rw [if_pos (by rw [List.length_map]; exact hl), List.getElem?_map, hi]
        rfl
      · rfl
    rw [eq]
    rcases List.mem_append.mp hx with hx | hx
    · exact h.all x hx k' e
    · rw [List.mem_singleton.mp hx, hs] at e
      cases e
      exact List.mem_map.mpr ⟨(k, l), List.mem_of_getElem? hi, rfl⟩
theorem mi_start (g : TG P0 touched srcs) (dom : ∀ s ∈ srcs, ∃ k, P0 s = some k) : MI P0 touched srcs 0 P0 where
  ref := fun s t b h1 h2 => h1.trans h2.symm
  sep := fun s t b k h1 h2 h3 no => by
    have nk : k ∉ touched.map Prod.fst := fun q => by
      obtain ⟨⟨k', l⟩, hm, e⟩ := List.mem_map.mp q
      obtain ⟨j, hj⟩ := List.mem_iff_getElem?.mp hm
      have e' : k' = k := e
      subst e'
      exact no j l (Nat.zero_le _) hj
    have ne : ∀ x, P0 x = some k → x ∉ srcs := fun x hx hm => nk (g.all x hm k hx)
    have : P0 t = some k := by rw [h2, ← h1, h3]
    exact ⟨fun q => absurd q (ne s h3), fun q => absurd q (ne t this)⟩
  rest := fun _ _ _ _ _ _ => Iff.rfl
theorem keys_ne (g : TG P0 touched srcs) {i j k k' : Nat} {l l' : List Nat} (hi : touched[i]? = some (k, l)) (hj : touched[j]? = some (k', l')) (ne : i ≠ j) : k ≠ k' := fun e => by
  subst e
  have li := (List.getElem?_eq_some_iff.mp hi).1
  exact ne ((List.getElem?_inj (by rw [List.length_map]; exact li) g.nd).mp (show (touched.map Prod.fst)[i]? = (touched.map Prod.fst)[j]? by rw [List.getElem?_map, List.getElem?_map, hi, hj]; rfl))
/-- a lot of which all were touched stays -/
theorem MI.stay (h : MI P0 touched srcs i bl) (g : TG P0 touched srcs) {old : Nat} {l : List Nat} (hi : touched[i]? = some (old, l)) (full : ∀ s, bl s = some old → s ∈ srcs) : MI P0 touched srcs (i + 1) bl where
  ref := h.ref
  sep := fun s t b k h1 h2 h3 no => by
    by_cases z : k = old
    · subst z
      have r := h.rest i k l (Nat.le_refl _) hi
      have h4 : P0 t = some k := by rw [← h.ref s t b h1 h2, h3]
      exact ⟨fun _ => full t ((r t).mp h4), fun _ => full s ((r s).mp h3)⟩
    · refine h.sep s t b k h1 h2 h3 fun j l' hj e => ?_
      by_cases y : j = i
      · subst y
        rw [hi] at e
        cases e
        exact z rfl
      · exact no j l' (by omega) e
  rest := fun j k l' hj => h.rest j k l' (by omega)
/-- a lot of which some were touched is cut -/
theorem MI.cut {bl' : Nat → Option Nat} {m : Nat} (h : MI P0 touched srcs i bl) (g : TG P0 touched srcs) {old : Nat} {l : List Nat} (hi : touched[i]? = some (old, l)) (mv : Moved bl bl' old m (· ∈ l)) (hm : ∀ (j k : Nat) (l' : List Nat), i ≤ j → touched[j]? = some (k, l') → k ≠ m) : MI P0 touched srcs (i + 1) bl' where
  ref := fun s t b h1 h2 => by
    obtain ⟨b0, e1, e2, _⟩ := mv.one h1 h2
    exact h.ref s t b0 e1 e2
  sep := fun s t b k h1 h2 h3 no => by
    obtain ⟨b0, e1, e2, e3⟩ := mv.one h1 h2
    by_cases z : k = old
    · subst z
      have h4 : P0 t = some k := by rw [← h.ref s t b0 e1 e2, h3]
      have el := (g.els k l (List.mem_of_getElem? hi)).1
      have me : ∀ x, P0 x = some k → (x ∈ srcs ↔ x ∈ l) := fun x hx => by
        rw [el, List.mem_filter]
        exact ⟨fun q => ⟨q, decide_eq_true hx⟩, fun q => q.1⟩
      rw [me s h3, me t h4]
      exact e3
    · refine h.sep s t b0 k e1 e2 h3 fun j l' hj e => ?_
      by_cases y : j = i
      · subst y
        rw [hi] at e
        cases e
        exact z rfl
      · exact no j l' (by omega) e
  rest := fun j k l' hj e s => by
    have hk := keys_ne g hi e (by omega)
    have r := h.rest j k l' (by omega) e s
    rw [r]
    by_cases z : s ∈ l
    · rw [mv.all s z, mv.yes s z]
      exact ⟨fun q => absurd (Option.some.inj q) hk, fun q => absurd (Option.some.inj q).symm (hm j k l' (by omega) e)⟩
    · rw [mv.no s z]
theorem MI.done (h : MI P0 touched srcs touched.length bl) (dom : ∀ s b, bl s = some b → ∃ k, P0 s = some k) : Sep bl (· ∈ srcs) := fun s t b h1 h2 => by
  obtain ⟨k, hk⟩ := dom s b h1
  refine h.sep s t b k h1 h2 hk fun j l hj e => ?_
  have := (List.getElem?_eq_some_iff.mp e).1
  omega
end
section
variable {rs : Rws} {es : List Bool} {R : Nat → Prop} {T : Nat} {block : List (Option Nat)} {mem : List (List Nat)} {sizes : List Nat} {wait : List Bool} {queue : List Nat} {k : Int} {S : Nat → Prop} {c0 : Nat}
theorem moved_mark (h : RI rs.length T block mem sizes) {old : Nat} {l : List Nat} (hl : ∀ s ∈ l, bv block s = some old) : Moved (bv block) (bv (mark mem.length block l)) old mem.length (· ∈ l) := by
  have b := bv_mark mem.length l block fun s hs => bv_lt (hl s hs)
  refine ⟨hl, fun s e => ?_, fun s hs => ?_, fun s hs => ?_⟩
  · have := h.lt s _ e
    omega
  · rw [b, if_pos hs]
  · rw [b, if_neg hs]
theorem wv_lt {b : Nat} (h : wv wait b) : b < wait.length := by
  unfold wv at h
  rw [List.getD_eq_getElem?_getD] at h
  rcases Nat.lt_or_ge b wait.length with l | l
  · exact l
  · rw [List.getElem?_eq_none l] at h
    cases h
theorem wv_set {c : Nat} (hc : c ≤ wait.length) (b : Nat) : wv ((wait ++ [false]).set c true) b ↔ b = c ∨ wv wait b := by
  unfold wv
  rw [List.getD_eq_getElem?_getD, List.getD_eq_getElem?_getD, List.getElem?_set]
  by_cases e : c = b
  · subst e
    rw [if_pos rfl, if_pos (by rw [List.length_append, List.length_singleton]; omega)]
    exact ⟨fun _ => .inl rfl, fun _ => rfl⟩
  · rw [if_neg e]
    have : (wait ++ [false])[b]?.getD false = wait[b]?.getD false := by
      rcases Nat.lt_trichotomy b wait.length with l | l | l
      · rw [List.getElem?_append_left l]
      · subst l
        rw [List.getElem?_append_right (Nat.le_refl _), Nat.sub_self, List.getElem?_eq_none (Nat.le_refl _)]
        rfl
      · rw [List.getElem?_eq_none (by rw [List.length_append, List.length_singleton]; omega), List.getElem?_eq_none (by omega)]
    rw [this]
    exact ⟨.inr, fun q => q.resolve_left fun z => e z.symm⟩
/-- a cut, and one of both that waits -/
theorem TI.cut (h : TI rs es R T block mem sizes wait queue k S c0) {old c : Nat} {l : List Nat} (ho : old < mem.length) (nd : l.Nodup) (hl : ∀ s ∈ l, bv block s = some old) (h1 : 1 ≤ l.length) (h2 : l.length < sizes.getD old 0)
    (hM : ∀ (s t : Nat), bv block s = some old → bv block t = some old → Eqv rs es rs es s t → s ∈ l → t ∈ l) (hc : c = mem.length ∨ (c = old ∧ ¬ wv wait old)) :
    TI rs es R T (mark mem.length block l) (mem ++ [l]) ((sizes ++ [l.length]).set old (sizes.getD old 0 - l.length)) ((wait ++ [false]).set c true) (queue ++ [c]) k S c0 := by
  have mv := moved_mark h.ri hl
  have wl := h.wl
  have cl : c ≤ wait.length := by omega
  have nm : ¬ wv wait mem.length := fun q => by
    have := wv_lt q
    omega
  have nc : ¬ wv wait c := by
    rcases hc with rfl | ⟨rfl, q⟩
    · exact nm
    · exact q
  have ws := wv_set cl
  refine ⟨h.ri.move ho nd hl h1 h2, ?_, ?_, fun b => ?_, ?_, h.inv.move mv (fun q => ?_) ?_ (fun b _ _ q => (ws b).mpr (.inr q)) nm, h.so.move mv hM, h.al.move mv, fun s => ?_⟩
  · rw [List.length_set, List.length_append, List.length_append, wl]
    rfl
  · rw [List.nodup_append]
    refine ⟨h.qn, List.nodup_cons.mpr ⟨List.not_mem_nil, List.nodup_nil⟩, fun x hx y hy e => ?_⟩
    rw [List.mem_singleton.mp hy] at e
    subst e
    exact nc ((h.qw x).mp hx)
  · rw [ws, List.mem_append, h.qw, List.mem_singleton]
    exact or_comm
  · have := h.ql
    rw [List.length_append, List.length_append, List.length_singleton, List.length_singleton]
    omega
  · refine ⟨(ws old).mpr (.inr q), (ws _).mpr (.inl ?_)⟩
    rcases hc with e | ⟨_, e⟩
    · exact e.symm
    · exact absurd q e
  · rcases hc with e | ⟨e, _⟩
    · exact .inr ((ws _).mpr (.inl e.symm))
    · exact .inl ((ws _).mpr (.inl e.symm))
  · rw [mv.dom, h.dom]
/-- a lot that waits is taken -/
theorem TI.take {x L : Nat} {S0 : Nat → Prop} (h : TI rs es R T block mem sizes wait (queue ++ [x]) k S0 L) (wide : ∀ r ∈ rs, r.length = L) (hx : x < mem.length) : TI rs es R T block (mem.set x ((mem.getD x []).filter (isB block x))) sizes (wait.set x false) queue (k - 1) (fun s => bv block s = some x) 0 := by
  have wl := h.wl
  have ws : ∀ b, wv (wait.set x false) b ↔ (b ≠ x ∧ wv wait b) := fun b => by
    unfold wv
    rw [List.getD_eq_getElem?_getD, List.getD_eq_getElem?_getD, List.getElem?_set]
    by_cases e : x = b
    · subst e
      rw [if_pos rfl, if_pos (by omega)]
      exact ⟨(fun q => by cases q), fun q => absurd rfl q.1⟩
    · rw [if_neg e]
      exact ⟨fun q => ⟨fun z => e z.symm, q⟩, fun q => q.2⟩
  obtain ⟨n1, n2, n3⟩ := List.nodup_append.mp h.qn
  refine ⟨h.ri.clean hx, by rw [List.length_set, List.length_set]; exact wl, n1, fun b => ?_, ?_, h.inv.start wide (fun _ => Iff.rfl) fun b q z => (ws b).mpr ⟨z, q⟩, h.so, h.al, h.dom⟩
  · have := h.qw b
    rw [List.mem_append, List.mem_singleton] at this
    rw [ws, ← this]
    exact ⟨fun q => ⟨fun z => n3 b q x List.mem_cons_self z, .inl q⟩, fun q => q.2.resolve_right q.1⟩
  · have := h.ql
    rw [List.length_append, List.length_singleton] at this
    rw [List.length_set]
    omega
theorem TI.letter (h : TI rs es R T block mem sizes wait queue k S c0) {srcs : List Nat} (hM : ∀ (s p b b' : Nat), bv block s = some b → nx rs s c0 = some p → bv block p = some b' → (s ∈ srcs ↔ S p)) (sep : Sep (bv block) (· ∈ srcs)) : TI rs es R T block mem sizes wait queue k S (c0 + 1) :=
  ⟨h.ri, h.wl, h.qn, h.qw, h.ql, h.inv.letter hM sep, h.so, h.al, h.dom⟩
theorem TI.done {L : Nat} (h : TI rs es R T block mem sizes wait [] k S L) (wide : ∀ r ∈ rs, r.length = L) (tgt : ∀ r ∈ rs, ∀ t, some t ∈ r → t < rs.length) (rl : ∀ s, R s → s < rs.length) (ron : ∀ s c t, R s → nx rs s c = some t → R t) : PB rs es L (bv block) := by
  refine pb_done h.inv wide tgt h.al h.so (fun b q => ?_) (fun s b e => ?_) fun s b c t e w => ?_
  · exact absurd ((h.qw b).mpr q) List.not_mem_nil
  · have := (h.dom s).mp ⟨b, e⟩
    exact ⟨rl s this.1, this.2⟩
  · have := (h.dom s).mp ⟨b, e⟩
    exact (h.dom t).mpr ⟨ron s c t this.1 w.1, w.2⟩
end
/-! ### the first lots -/
def b2n (b : Bool) : Nat := if b = true then 1 else 0
def signOf (a : Nat) (xs : List Bool) : Nat := xs.foldl (fun a b => 2 * a + b2n b) a
theorem b2n_le (b : Bool) : b2n b ≤ 1 := by
  cases b <;> decide
theorem b2n_inj {a b : Bool} (h : b2n a = b2n b) : a = b := by
  cases a <;> cases b
  · rfl
  · exact absurd h (by decide)
  · exact absurd h (by decide)
  · rfl
theorem sign_inj : ∀ {xs ys : List Bool} {a b : Nat}, xs.length = ys.length → signOf a xs = signOf b ys → a = b ∧ xs = ys
  | [], [], _, _, _, h => ⟨h, rfl⟩
  | [], _ :: _, _, _, l, _ => by cases l
  | _ :: _, [], _, _, l, _ => by cases l
  | x :: xs, y :: ys, a, b, l, h => by
    obtain ⟨h1, h2⟩ := sign_inj (xs := xs) (ys := ys) (a := 2 * a + b2n x) (b := 2 * b + b2n y) (Nat.succ.inj l) h
    have lx := b2n_le x
    have ly := b2n_le y
    have hx : b2n x = b2n y := by omega
    exact ⟨by omega, by rw [b2n_inj hx, h2]⟩
def lvO (lv : Nat → Bool) : Option Nat → Bool
  | none => false
  | some t => lv t
def bitsOf (rs : Rws) (lv : Nat → Bool) (s : Nat) : List Bool := (rs.getD s []).map (lvO lv)
def sgS (rs : Rws) (es : List Bool) (lv : Nat → Bool) (s : Nat) : Nat := signOf (b2n (es.getD s false)) (bitsOf rs lv s)
/-- states put into lots by their signs -/
structure FB (n : Nat) (sg : Nat → Nat) (ds : List Nat) (block : List (Option Nat)) (nums : List Nat) (mem : List (List Nat)) : Prop where
  lb : block.length = n
  bl : ∀ (s b : Nat), bv block s = some b ↔ (s ∈ ds ∧ nums[b]? = some (sg s))
  lm : mem.length = nums.length
  nd : nums.Nodup
  nds : ds.Nodup
  ms : ∀ (b g : Nat), nums[b]? = some g → mem[b]? = some (ds.filter fun s => decide (sg s = g))
  ne : ∀ (b g : Nat), nums[b]? = some g → ∃ s ∈ ds, sg s = g
  al : ∀ s ∈ ds, sg s ∈ nums
  sum : (mem.map List.length).sum = ds.length
section
variable {n : Nat} {sg : Nat → Nat} {ds : List Nat} {block : List (Option Nat)} {nums : List Nat} {mem : List (List Nat)}
theorem fb_start : FB n sg [] (List.replicate n none) [] [] := by
  refine ⟨List.length_replicate, fun s b => ⟨fun h => ?_, fun h => absurd h.1 List.not_mem_nil⟩, rfl, List.nodup_nil, List.nodup_nil, (fun b g h => by cases h), (fun b g h => by cases h), fun s h => absurd h List.not_mem_nil, rfl⟩
  unfold bv at h
  rw [List.getD_eq_getElem?_getD, List.getElem?_replicate] at h
  split at h <;> cases h
theorem FB.fresh (h : FB n sg ds block nums mem) {s : Nat} (hs : s < n) (hd : s ∉ ds) (hn : sg s ∉ nums) : FB n sg (ds ++ [s]) (block.set s (some mem.length)) (nums ++ [sg s]) (mem ++ [[s]]) where
  lb := by rw [List.length_set]; exact h.lb
  bl := fun t b => by
    rw [bv_set (by rw [h.lb]; exact hs)]
    by_cases e : t = s
    · rw [if_pos e, e]
      constructor
      · intro q
        have := Option.some.inj q
        subst this
        exact ⟨List.mem_append.mpr (.inr List.mem_cons_self), by rw [h.lm, List.getElem?_append_right (Nat.le_refl _), Nat.sub_self]; rfl⟩
      · rintro ⟨_, q⟩
        rcases Nat.lt_or_ge b nums.length with l | l
        · rw [List.getElem?_append_left l] at q
          exact absurd (List.mem_of_getElem? q) hn
        · have := (List.getElem?_eq_some_iff.mp q).1
          rw [List.length_append, List.length_singleton] at this
          rw [h.lm]
          exact congrArg some (by omega)
    · rw [if_neg e, h.bl]
      constructor
      · rintro ⟨q1, q2⟩
        exact ⟨List.mem_append.mpr (.inl q1), by rw [List.getElem?_append_left (List.getElem?_eq_some_iff.mp q2).1]; exact q2⟩
      · rintro ⟨q1, q2⟩
        have q1 := (List.mem_append.mp q1).resolve_right fun z => e (List.mem_singleton.mp z)
        refine ⟨q1, ?_⟩
        rcases Nat.lt_or_ge b nums.length with l | l
        · rw [List.getElem?_append_left l] at q2
          exact q2
        · have h1 := (List.getElem?_eq_some_iff.mp q2).1
          rw [List.length_append, List.length_singleton] at h1
          rw [List.getElem?_append_right l, show b - nums.length = 0 by omega] at q2
          have h2 : sg s = sg t := Option.some.inj q2
          exact absurd (h2 ▸ h.al t q1) hn
  lm := by rw [List.length_append, List.length_append, h.lm]; rfl
  nd := by
    rw [List.nodup_append]
    refine ⟨h.nd, List.nodup_cons.mpr ⟨List.not_mem_nil, List.nodup_nil⟩, fun x hx y hy e => ?_⟩
    rw [List.mem_singleton.mp hy] at e
    exact hn (e ▸ hx)
  nds := by
    rw [List.nodup_append]
    refine ⟨h.nds, List.nodup_cons.mpr ⟨List.not_mem_nil, List.nodup_nil⟩, fun x hx y hy e => ?_⟩
    rw [List.mem_singleton.mp hy] at e
    exact hd (e ▸ hx)
  ms := fun b g q => by
    rw [List.filter_append]
    rcases Nat.lt_or_ge b nums.length with l | l
    · rw [List.getElem?_append_left l] at q
      rw [List.getElem?_append_left (by rw [h.lm]; exact l), h.ms b g q, List.filter_cons, if_neg (by rw [decide_eq_true_eq]; exact fun z => hn (z ▸ List.mem_of_getElem? q)), List.filter_nil, List.append_nil]
    · have h1 := (List.getElem?_eq_some_iff.mp q).1
      rw [List.length_append, List.length_singleton] at h1
      rw [List.getElem?_append_right l, show b - nums.length = 0 by omega] at q
      have h2 : sg s = g := Option.some.inj q
      subst h2
      have h3 : ds.filter (fun t => decide (sg t = sg s)) = [] := List.filter_eq_nil_iff.mpr fun x hx z => hn (of_decide_eq_true z ▸ h.al x hx)
      rw [h3, List.getElem?_append_right (by rw [h.lm]; exact l), show b - mem.length = 0 by rw [h.lm]; omega, List.filter_cons, if_pos (decide_eq_true rfl)]
      rfl
  ne := fun b g q => by
    rcases Nat.lt_or_ge b nums.length with l | l
    · rw [List.getElem?_append_left l] at q
      obtain ⟨x, hx, e⟩ := h.ne b g q
      exact ⟨x, List.mem_append.mpr (.inl hx), e⟩
    · have h1 := (List.getElem?_eq_some_iff.mp q).1
      rw [List.length_append, List.length_singleton] at h1
      rw [List.getElem?_append_right l, show b - nums.length = 0 by omega] at q
      exact ⟨s, List.mem_append.mpr (.inr List.mem_cons_self), Option.some.inj q⟩
  al := fun t ht => by
    rcases List.mem_append.mp ht with ht | ht
    · exact List.mem_append.mpr (.inl (h.al t ht))
    · rw [List.mem_singleton.mp ht]
      exact List.mem_append.mpr (.inr List.mem_cons_self)
  sum := by
    rw [List.map_append, List.sum_append, h.sum, List.length_append]
    simp
theorem FB.more (h : FB n sg ds block nums mem) {s b : Nat} (hs : s < n) (hd : s ∉ ds) (hb : nums[b]? = some (sg s)) : FB n sg (ds ++ [s]) (block.set s (some b)) nums (mem.set b (mem.getD b [] ++ [s])) where
  lb := by rw [List.length_set]; exact h.lb
  bl := fun t b' => by
    rw [bv_set (by rw [h.lb]; exact hs)]
    by_cases e : t = s
    · rw [if_pos e, e]
      constructor
      · intro q
        have := Option.some.inj q
        subst this
        exact ⟨List.mem_append.mpr (.inr List.mem_cons_self), hb⟩
      · rintro ⟨_, q⟩
        exact congrArg some (nodup_at h.nd hb q)
    · rw [if_neg e, h.bl]
      exact ⟨fun q => ⟨List.mem_append.mpr (.inl q.1), q.2⟩, fun q => ⟨(List.mem_append.mp q.1).resolve_right fun z => e (List.mem_singleton.mp z), q.2⟩⟩
  lm := by rw [List.length_set, h.lm]
  nd := h.nd
  nds := by
    rw [List.nodup_append]
    refine ⟨h.nds, List.nodup_cons.mpr ⟨List.not_mem_nil, List.nodup_nil⟩, fun x hx y hy e => ?_⟩
    rw [List.mem_singleton.mp hy] at e
    exact hd (e ▸ hx)
  ms := fun b' g q => by
    have lb := (List.getElem?_eq_some_iff.mp hb).1
    rw [List.filter_append, List.getElem?_set]
    by_cases e : b = b'
    · subst e
      have hg : sg s = g := Option.some.inj (hb.symm.trans q)
      subst hg
      rw [if_pos rfl, if_pos (by rw [h.lm]; exact lb), List.getD_eq_getElem?_getD, h.ms b _ hb, List.filter_cons, if_pos (decide_eq_true rfl)]
      rfl
    · rw [if_neg e, h.ms b' g q, List.filter_cons, if_neg (by rw [decide_eq_true_eq]; exact fun z => e (nodup_at h.nd hb (z ▸ q))), List.filter_nil, List.append_nil]
  ne := fun b' g q => by
    obtain ⟨x, hx, e⟩ := h.ne b' g q
    exact ⟨x, List.mem_append.mpr (.inl hx), e⟩
  al := fun t ht => by
    rcases List.mem_append.mp ht with ht | ht
    · exact h.al t ht
    · rw [List.mem_singleton.mp ht]
      exact List.mem_of_getElem? hb
  sum := by
    have lb := (List.getElem?_eq_some_iff.mp hb).1
    have lm := h.lm
    have l1 : b < (mem.map List.length).length := by rw [List.length_map, lm]; exact lb
    have h1 := sum_set (zs := mem.map List.length) (v := (mem.getD b [] ++ [s]).length) l1
    have h2 := h.sum
    have h3 : (mem.map List.length)[b] = (mem.getD b []).length := by
      rw [List.getElem_map, getD_at (by omega)]
    have e1 : (mem.getD b [] ++ [s]).length = (mem.getD b []).length + 1 := by rw [List.length_append]; rfl
    have e2 : (ds ++ [s]).length = ds.length + 1 := by rw [List.length_append]; rfl
    rw [List.map_set, e2]
    omega
theorem range_wv {m b : Nat} : wv (List.replicate m true) b ↔ b < m := by
  unfold wv
  rw [List.getD_eq_getElem?_getD, List.getElem?_replicate]
  by_cases h : b < m
  · rw [if_pos h]
    exact ⟨fun _ => h, fun _ => rfl⟩
  · rw [if_neg h]
    exact ⟨(fun q => by cases q), fun q => absurd q h⟩
theorem bits_len {rs : Rws} {L : Nat} (wide : ∀ r ∈ rs, r.length = L) (lv : Nat → Bool) {s : Nat} (hs : s < rs.length) : (bitsOf rs lv s).length = L := by
  unfold bitsOf
  rw [List.length_map, getD_at hs]
  exact wide _ (List.getElem_mem hs)
theorem bits_at {rs : Rws} {lv : Nat → Bool} {s c : Nat} : (bitsOf rs lv s).getD c false = lvO lv (nx rs s c) := by
  unfold bitsOf nx
  rw [List.getD_eq_getElem?_getD, List.getElem?_map, List.getD_eq_getElem?_getD (l := rs.getD s [])]
  cases (rs.getD s [])[c]? with
  | none => rfl
  | some o => rfl
/-- the lots by signs start the splitting -/
theorem FB.ti {rs : Rws} {es : List Bool} {L : Nat} {R : Nat → Prop} {lv : Nat → Bool} (h : FB rs.length (sgS rs es lv) ds block nums mem) (wide : ∀ r ∈ rs, r.length = L) (hd : ∀ s, s ∈ ds ↔ (R s ∧ Live rs es s)) (rl : ∀ s, R s → s < rs.length) (ron : ∀ s c t, R s → nx rs s c = some t → R t)
    (hlv : ∀ t, R t → (lv t = true ↔ Live rs es t)) (S : Nat → Prop) : TI rs es R ds.length block mem (mem.map List.length) (List.replicate mem.length true) (List.range mem.length) 0 S L := by
  have lm := h.lm
  have dm : ∀ s b, bv block s = some b → R s := fun s b e => ((hd s).mp ((h.bl s b).mp e).1).1
  have numb : ∀ {b}, b < mem.length → ∃ g, nums[b]? = some g := fun hb => ⟨_, List.getElem?_eq_getElem (by omega)⟩
  have mb : ∀ b g, nums[b]? = some g → mem.getD b [] = ds.filter fun s => decide (sgS rs es lv s = g) := fun b g e => by
    rw [List.getD_eq_getElem?_getD, h.ms b g e]
    rfl
  refine ⟨⟨h.lb, (List.length_map _).symm, fun s b e => ?_, fun s b e => ?_, fun b => ?_, fun b hb => ?_, fun z hz => ?_, h.sum, fun b s hs => ?_⟩, List.length_replicate, List.nodup_range, fun b => ?_, ?_, ?_, ?_, ?_, fun s => ?_⟩
  · rw [lm]
    exact (List.getElem?_eq_some_iff.mp ((h.bl s b).mp e).2).1
  · obtain ⟨h1, h2⟩ := (h.bl s b).mp e
    rw [mb b _ h2]
    exact List.mem_filter.mpr ⟨h1, decide_eq_true rfl⟩
  · rcases Nat.lt_or_ge b mem.length with l | l
    · obtain ⟨g, e⟩ := numb l
      rw [mb b g e]
      exact h.nds.filter _
    · rw [List.getD_eq_getElem?_getD, List.getElem?_eq_none l]
      exact List.nodup_nil
  · obtain ⟨g, e⟩ := numb hb
    have e1 : (mem.map List.length).getD b 0 = (mem.getD b []).length := by
      rw [List.getD_eq_getElem?_getD, List.getElem?_map, List.getD_eq_getElem?_getD, List.getElem?_eq_getElem hb]
      rfl
    rw [e1, List.filter_eq_self.mpr fun s hs => ?_]
    rw [mb b g e] at hs
    obtain ⟨h1, h2⟩ := List.mem_filter.mp hs
    exact decide_eq_true ((h.bl s b).mpr ⟨h1, by rw [of_decide_eq_true h2]; exact e⟩)
  · obtain ⟨xs, hx, rfl⟩ := List.mem_map.mp hz
    obtain ⟨b, hb⟩ := List.mem_iff_getElem?.mp hx
    obtain ⟨g, e⟩ := numb (List.getElem?_eq_some_iff.mp hb).1
    obtain ⟨s, hs, es⟩ := h.ne b g e
    rw [h.ms b g e] at hb
    rw [← Option.some.inj hb]
    exact List.length_pos_of_mem (List.mem_filter.mpr ⟨hs, decide_eq_true es⟩)
  · rcases Nat.lt_or_ge b mem.length with l | l
    · obtain ⟨g, e⟩ := numb l
      rw [mb b g e] at hs
      exact rl s ((hd s).mp (List.mem_filter.mp hs).1).1
    · rw [List.getD_eq_getElem?_getD, List.getElem?_eq_none l] at hs
      exact absurd hs List.not_mem_nil
  · rw [List.mem_range, range_wv]
  · rw [List.length_range]
    omega
  · intro s t b c p q bp bq _ _ _ _ ep _ _
    left
    rw [range_wv, lm]
    exact (List.getElem?_eq_some_iff.mp ((h.bl p bp).mp ep).2).1
  · intro s t b b' e1 e2 e
    obtain ⟨h1, h2⟩ := (h.bl s b).mp e1
    obtain ⟨h3, h4⟩ := (h.bl t b').mp e2
    have hs := (hd s).mp h1
    have ht := (hd t).mp h3
    have hb : bitsOf rs lv s = bitsOf rs lv t := by
      refine List.ext_getElem (by rw [bits_len wide lv (rl s hs.1), bits_len wide lv (rl t ht.1)]) fun c g1 g2 => ?_
      have a1 : (bitsOf rs lv s).getD c false = (bitsOf rs lv s)[c] := getD_at g1
      have a2 : (bitsOf rs lv t).getD c false = (bitsOf rs lv t)[c] := getD_at g2
      rw [← a1, ← a2, bits_at, bits_at]
      have one : ∀ {s t : Nat}, R s → R t → Eqv rs es rs es s t → lvO lv (nx rs s c) = true → lvO lv (nx rs t c) = true := fun {s t} r1 r2 e k => by
        cases ep : nx rs s c with
        | none =>
          rw [ep] at k
          cases k
        | some p =>
          rw [ep] at k
          obtain ⟨q, w, _⟩ := e.way ⟨ep, (hlv p (ron s c p r1 ep)).mp k⟩
          rw [w.1]
          exact (hlv q (ron t c q r2 w.1)).mpr w.2
      cases k1 : lvO lv (nx rs s c) with
      | true => exact (one hs.1 ht.1 e k1).symm
      | false =>
        cases k2 : lvO lv (nx rs t c) with
        | false => rfl
        | true =>
          rw [one ht.1 hs.1 e.symm k2] at k1
          cases k1
    have e0 : es.getD s false = es.getD t false := e []
    have : sgS rs es lv s = sgS rs es lv t := by
      unfold sgS
      rw [hb, e0]
    rw [this] at h2
    exact nodup_at h.nd h2 h4
  · intro s t b e1 e2
    obtain ⟨h1, h2⟩ := (h.bl s b).mp e1
    obtain ⟨h3, h4⟩ := (h.bl t b).mp e2
    have hs := (hd s).mp h1
    have ht := (hd t).mp h3
    have eg : sgS rs es lv s = sgS rs es lv t := Option.some.inj (h2.symm.trans h4)
    obtain ⟨g1, g2⟩ := sign_inj (by rw [bits_len wide lv (rl s hs.1), bits_len wide lv (rl t ht.1)]) eg
    refine ⟨b2n_inj g1, fun c p b' hp hb => ?_⟩
    have hl := (hd p).mp ((h.bl p b').mp hb).1
    have k : lvO lv (nx rs t c) = true := by
      rw [← bits_at, ← g2, bits_at, hp]
      exact (hlv p hl.1).mpr hl.2
    cases eq : nx rs t c with
    | none =>
      rw [eq] at k
      cases k
    | some q =>
      rw [eq] at k
      have rq := ron t c q ht.1 eq
      have hq := (hd q).mpr ⟨rq, (hlv q rq).mp k⟩
      obtain ⟨i, hi⟩ := List.mem_iff_getElem?.mp (h.al q hq)
      exact ⟨q, i, rfl, (h.bl q i).mpr ⟨hq, hi⟩⟩
  · rw [← hd]
    constructor
    · rintro ⟨b, e⟩
      exact ((h.bl s b).mp e).1
    · intro hs
      obtain ⟨i, hi⟩ := List.mem_iff_getElem?.mp (h.al s hs)
      exact ⟨i, (h.bl s i).mpr ⟨hs, hi⟩⟩
end
/-! ### the law's own smallest machine -/
section
variable {rs : Rws} {es : List Bool} {L : Nat}
/-- the states from which words end, when nothing is added any more -/
theorem open_done {F : Nat → Prop} (tgt : ∀ r ∈ rs, ∀ t, some t ∈ r → t < rs.length) (wide : ∀ r ∈ rs, r.length = L) (so : ∀ s, F s → Live rs es s) (en : ∀ s, s < rs.length → es.getD s false = true → F s) (cl : ∀ s c t, s < rs.length → nx rs s c = some t → F t → F s) : ∀ s, s < rs.length → (F s ↔ Live rs es s) := by
  have key : ∀ (w : List Nat) (s : Nat), s < rs.length → acc rs es w s = true → F s := by
    intro w
    induction w with
    | nil => exact fun s hs e => en s hs e
    | cons c w ih =>
      intro s hs e
      cases ep : nx rs s c with
      | none =>
        rw [acc_none ep] at e
        cases e
      | some t =>
        rw [acc_cons ep] at e
        obtain ⟨_, _, r, hr, ht⟩ := nx_lt wide ep
        exact cl s c t hs ep (ih t (tgt r hr t ht) e)
  exact fun s hs => ⟨so s, fun ⟨w, hw⟩ => key w s hs hw⟩
theorem live_end {s : Nat} (h : es.getD s false = true) : Live rs es s := ⟨[], h⟩
theorem live_on {s c t : Nat} (h : nx rs s c = some t) (l : Live rs es t) : Live rs es s := by
  obtain ⟨w, hw⟩ := l
  exact ⟨c :: w, by rw [acc_cons h]; exact hw⟩
/-- a target that lives, if there is one -/
def Lvs (rs : Rws) (es : List Bool) : Option Nat → Prop
  | none => False
  | some t => Live rs es t
/-- pairs told apart by what is told apart already -/
structure Apart (rs : Rws) (es : List Bool) (H : Nat → Nat → Prop) (a b : Nat) : Prop where
  it : es.getD a false ≠ es.getD b false ∨ ∃ c, ¬ (Lvs rs es (nx rs a c) ↔ Lvs rs es (nx rs b c)) ∨ ∃ p q, nx rs a c = some p ∧ nx rs b c = some q ∧ Live rs es p ∧ H p q
theorem Apart.no {H : Nat → Nat → Prop} {a b : Nat} (h : Apart rs es H a b) (so : ∀ p q, H p q → ¬ Eqv rs es rs es p q) : ¬ Eqv rs es rs es a b := fun e => by
  have one : ∀ {a b c : Nat}, Eqv rs es rs es a b → Lvs rs es (nx rs a c) → Lvs rs es (nx rs b c) := fun {a b c} e h => by
    cases ep : nx rs a c with
    | none =>
      rw [ep] at h
      exact h.elim
    | some p =>
      rw [ep] at h
      obtain ⟨q, w, _⟩ := e.way ⟨ep, h⟩
      rw [w.1]
      exact w.2
  rcases h.it with h | ⟨c, h | ⟨p, q, h1, h2, h3, h4⟩⟩
  · exact h (e [])
  · exact h ⟨one e, one e.symm⟩
  · obtain ⟨q', w, e'⟩ := e.way ⟨h1, h3⟩
    have : q' = q := Option.some.inj (w.1.symm.trans h2)
    subst this
    exact so p q' h4 e'
theorem held_done {H : Nat → Nat → Prop} {D : Nat → Prop} (wy : ∀ s c t, D s → Way rs es s c t → D t) (cl : ∀ a b, D a → D b → Apart rs es H a b → H a b) : ∀ (a b : Nat), D a → D b → ¬ H a b → Eqv rs es rs es a b := by
  have key : ∀ (w : List Nat) (a b : Nat), D a → D b → ¬ H a b → acc rs es w a = true → acc rs es w b = true := by
    intro w
    induction w with
    | nil =>
      intro a b ha hb n e
      show es.getD b false = true
      have e : es.getD a false = true := e
      cases q : es.getD b false with
      | true => rfl
      | false => exact absurd (cl a b ha hb ⟨.inl (by rw [e, q]; decide)⟩) n
    | cons c w ih =>
      intro a b ha hb n e
      cases ep : nx rs a c with
      | none =>
        rw [acc_none ep] at e
        cases e
      | some p =>
        rw [acc_cons ep] at e
        have lp : Live rs es p := ⟨w, e⟩
        have lq : Lvs rs es (nx rs b c) := by
          have : Lvs rs es (nx rs a c) ↔ Lvs rs es (nx rs b c) := Classical.byContradiction fun z => n (cl a b ha hb ⟨.inr ⟨c, .inl z⟩⟩)
          exact this.mp (by rw [ep]; exact lp)
        cases eq : nx rs b c with
        | none =>
          rw [eq] at lq
          exact lq.elim
        | some q =>
          rw [eq] at lq
          rw [acc_cons eq]
          exact ih p q (wy a c p ha ⟨ep, lp⟩) (wy b c q hb ⟨eq, lq⟩) (fun z => n (cl a b ha hb ⟨.inr ⟨c, .inr ⟨p, q, ep, eq, lp, z⟩⟩⟩)) e
  have sym : ∀ a b, Apart rs es (fun x y => H y x) a b → Apart rs es H b a := fun a b h => by
    refine ⟨?_⟩
    rcases h.it with h | ⟨c, h | ⟨p, q, h1, h2, h3, h4⟩⟩
    · exact .inl fun z => h z.symm
    · exact .inr ⟨c, .inl fun z => h z.symm⟩
    · by_cases y : Lvs rs es (nx rs a c) ↔ Lvs rs es (nx rs b c)
      · exact .inr ⟨c, .inr ⟨q, p, h2, h1, by have := y.mp (by rw [h1]; exact h3); rw [h2] at this; exact this, h4⟩⟩
      · exact .inr ⟨c, .inl fun z => y z.symm⟩
  intro a b ha hb n w
  have h1 := key w a b ha hb n
  cases e1 : acc rs es w a with
  | true => exact (h1 e1).symm
  | false =>
    cases e2 : acc rs es w b with
    | false => rfl
    | true =>
      -- the other way round: what is not held of (a, b) leads alike as well
      exfalso
      have key2 : ∀ (w : List Nat) (a b : Nat), D a → D b → ¬ H a b → acc rs es w b = true → acc rs es w a = true := by
        intro w
        induction w with
        | nil =>
          intro a b ha hb n e
          show es.getD a false = true
          have e : es.getD b false = true := e
          cases q : es.getD a false with
          | true => rfl
          | false => exact absurd (cl a b ha hb ⟨.inl (by rw [e, q]; decide)⟩) n
        | cons c w ih =>
          intro a b ha hb n e
          cases ep : nx rs b c with
          | none =>
            rw [acc_none ep] at e
            cases e
          | some p =>
            rw [acc_cons ep] at e
            have lp : Live rs es p := ⟨w, e⟩
            have lq : Lvs rs es (nx rs a c) := by
              have : Lvs rs es (nx rs a c) ↔ Lvs rs es (nx rs b c) := Classical.byContradiction fun z => n (cl a b ha hb ⟨.inr ⟨c, .inl z⟩⟩)
              exact this.mpr (by rw [ep]; exact lp)
            cases eq : nx rs a c with
            | none =>
              rw [eq] at lq
              exact lq.elim
            | some q =>
              rw [eq] at lq
              rw [acc_cons eq]
              exact ih q p (wy a c q ha ⟨eq, lq⟩) (wy b c p hb ⟨ep, lp⟩) (fun z => n (cl a b ha hb ⟨.inr ⟨c, .inr ⟨q, p, eq, ep, lq, z⟩⟩⟩)) e
      rw [key2 w a b ha hb n e2] at e1
      cases e1
/-- the first of each lot among the states that are met -/
structure HD (rs : Rws) (es : List Bool) (P : Nat → Nat) (seen heads : List Nat) : Prop where
  up : heads.Pairwise fun a b => P a < P b
  mem : ∀ h ∈ heads, h ∈ seen
  one : ∀ (i j h h' : Nat), heads[i]? = some h → heads[j]? = some h' → Eqv rs es rs es h h' → i = j
  first : ∀ s ∈ seen, ∃ h ∈ heads, Eqv rs es rs es h s ∧ P h ≤ P s
variable {P : Nat → Nat} {seen heads : List Nat}
theorem hd_start : HD rs es P [] [] := ⟨List.Pairwise.nil, fun _ h => absurd h List.not_mem_nil, (fun _ _ _ _ h => by cases h), fun _ h => absurd h List.not_mem_nil⟩
theorem HD.old (h : HD rs es P seen heads) {s x : Nat} (hs : ∀ t ∈ seen, P t < P s) (hx : x ∈ heads) (e : Eqv rs es rs es x s) : HD rs es P (seen ++ [s]) heads :=
  ⟨h.up, fun y hy => List.mem_append.mpr (.inl (h.mem y hy)), h.one, fun t ht => by
    rcases List.mem_append.mp ht with ht | ht
    · exact h.first t ht
    · rw [List.mem_singleton.mp ht]
      exact ⟨x, hx, e, Nat.le_of_lt (hs x (h.mem x hx))⟩⟩
theorem HD.new (h : HD rs es P seen heads) {s : Nat} (hs : ∀ t ∈ seen, P t < P s) (no : ∀ x ∈ heads, ¬ Eqv rs es rs es x s) : HD rs es P (seen ++ [s]) (heads ++ [s]) := by
  refine ⟨List.pairwise_append.mpr ⟨h.up, List.pairwise_singleton _ _, fun a ha b hb => ?_⟩, fun y hy => ?_, fun i j a b ha hb e => ?_, fun t ht => ?_⟩
  · rw [List.mem_singleton.mp hb]
    exact hs a (h.mem a ha)
  · rcases List.mem_append.mp hy with hy | hy
    · exact List.mem_append.mpr (.inl (h.mem y hy))
    · exact List.mem_append.mpr (.inr hy)
  · have out : ∀ {i a : Nat}, (heads ++ [s])[i]? = some a → (heads[i]? = some a) ∨ (i = heads.length ∧ a = s) := fun {i a} q => by
      rcases Nat.lt_or_ge i heads.length with l | l
      · rw [List.getElem?_append_left l] at q
        exact .inl q
      · have l2 := (List.getElem?_eq_some_iff.mp q).1
        rw [List.length_append, List.length_singleton] at l2
        rw [List.getElem?_append_right l, show i - heads.length = 0 by omega] at q
        exact .inr ⟨by omega, (Option.some.inj q).symm⟩
    rcases out ha with qa | ⟨ia, ea⟩
    · rcases out hb with qb | ⟨ib, eb⟩
      · exact h.one i j a b qa qb e
      · rw [eb] at e
        exact absurd e (no a (List.mem_of_getElem? qa))
    · rcases out hb with qb | ⟨ib, _⟩
      · rw [ea] at e
        exact absurd e.symm (no b (List.mem_of_getElem? qb))
      · omega
  · rcases List.mem_append.mp ht with ht | ht
    · obtain ⟨x, hx, e, l⟩ := h.first t ht
      exact ⟨x, List.mem_append.mpr (.inl hx), e, l⟩
    · rw [List.mem_singleton.mp ht]
      exact ⟨s, List.mem_append.mpr (.inr List.mem_cons_self), Eqv.refl s, Nat.le_refl _⟩
theorem idx_at {found : List Nat} (nd : found.Nodup) {i s : Nat} (h : found[i]? = some s) : found.idxOf s = i := by
  have hm := List.mem_of_getElem? h
  have hl := List.idxOf_lt_length_of_mem hm
  exact nodup_at nd (by rw [List.getElem?_eq_getElem hl, List.getElem_idxOf hl]) h
theorem at_idx {found : List Nat} {s : Nat} (h : s ∈ found) : found[found.idxOf s]? = some s := by
  have hl := List.idxOf_lt_length_of_mem h
  rw [List.getElem?_eq_getElem hl, List.getElem_idxOf hl]
theorem pair_lt {P : Nat → Nat} {heads : List Nat} (h : heads.Pairwise fun a b => P a < P b) {i j a b : Nat} (hi : heads[i]? = some a) (hj : heads[j]? = some b) (l : i < j) : P a < P b := by
  have l1 := List.getElem?_eq_some_iff.mp hi
  have l2 := List.getElem?_eq_some_iff.mp hj
  have := List.pairwise_iff_getElem.mp h i j l1.1 l2.1 l
  rw [l1.2, l2.2] at this
  exact this
/-- the law's machine is the smallest one -/
theorem least_canon {found : List Nat} {done out : Rws} {oe : List Bool} (wide : ∀ r ∈ rs, r.length = L) (ni : NI rs L some found found done []) (hd : done.length = found.length) (lv0 : Live rs es 0)
    (hs : ∀ s, s ∈ seen ↔ (s ∈ found ∧ Live rs es s)) (hh : HD rs es (fun s => found.idxOf s) seen heads) (lo : out.length = heads.length) (ow : ∀ r ∈ out, r.length = L) (oe_ : oe = heads.map fun p => es.getD p false)
    (some_ : ∀ (i p c j : Nat), heads[i]? = some p → nx out i c = some j → ∃ t q, Way rs es p c t ∧ heads[j]? = some q ∧ Eqv rs es rs es t q) (none_ : ∀ (i p c t : Nat), heads[i]? = some p → c < L → nx out i c = none → ¬ Way rs es p c t) : Canon rs es L heads out oe := by
  have nd := ni.nd
  have m0 : 0 ∈ found := List.mem_of_getElem? ni.zero
  have z0 : found.idxOf 0 = 0 := idx_at nd ni.zero
  have edge : ∀ {p c t : Nat}, p ∈ found → nx rs p c = some t → nx done (found.idxOf p) c = some (found.idxOf t) ∧ t ∈ found := fun {p c t} hp ht => by
    have hip := at_idx hp
    have hil := (List.getElem?_eq_some_iff.mp hip).1
    have hc := (nx_lt wide ht).2.1
    cases e : nx done (found.idxOf p) c with
    | none => exact absurd (ni.no _ c p t (.inl ⟨by omega, hc⟩) (by rw [nx_new]; exact e) hip ht) (fun z => by cases z)
    | some j =>
      obtain ⟨p', t', b, e1, e2, e3, e4⟩ := ni.yes _ c j (by rw [nx_new]; exact e)
      have : p' = p := Option.some.inj (e1.symm.trans hip)
      subst this
      have : t' = t := Option.some.inj (e2.symm.trans ht)
      subst this
      have : t' = b := Option.some.inj e3
      subst this
      exact ⟨congrArg some (idx_at nd e4).symm, List.mem_of_getElem? e4⟩
  have inH : ∀ {i h : Nat}, heads[i]? = some h → h ∈ found ∧ Live rs es h := fun e => (hs _).mp (hh.mem _ (List.mem_of_getElem? e))
  refine ⟨lo, by rw [oe_, List.length_map], ?_, fun p hp => ((hs p).mp (hh.mem p hp)).2, hh.one, ow, fun i p hp => ?_, some_, none_, fun p c t _ w => (nx_lt wide w.1).2.1, fun j h1 h2 => ?_⟩
  · obtain ⟨h, hm, _, hl⟩ := hh.first 0 ((hs 0).mpr ⟨m0, lv0⟩)
    have hl : found.idxOf h ≤ found.idxOf 0 := hl
    rw [z0] at hl
    have hf := at_idx ((hs h).mp (hh.mem h hm)).1
    rw [show found.idxOf h = 0 by omega, ni.zero] at hf
    have : 0 = h := Option.some.inj hf
    subst this
    obtain ⟨i, hi⟩ := List.mem_iff_getElem?.mp hm
    by_cases y : i = 0
    · subst y
      exact hi
    · have l := (List.getElem?_eq_some_iff.mp hi).1
      have := pair_lt hh.up (List.getElem?_eq_getElem (show 0 < heads.length by omega)) hi (by omega)
      have : found.idxOf heads[0] < found.idxOf 0 := this
      omega
  · rw [oe_, List.getElem?_map, hp]
    rfl
  · have hj := List.getElem?_eq_getElem h2
    obtain ⟨fj, lj⟩ := inH hj
    have pj := at_idx fj
    have jl := (List.getElem?_eq_some_iff.mp pj).1
    have jpos : 1 ≤ found.idxOf heads[j] := by
      have := pair_lt hh.up (List.getElem?_eq_getElem (show 0 < heads.length by omega)) hj (by omega)
      have : found.idxOf heads[0] < found.idxOf heads[j] := this
      omega
    obtain ⟨p, c, hp, hpc, hmin⟩ := ni.ord _ jpos jl
    rw [nx_new] at hpc
    obtain ⟨P0, t, b, e1, e2, e3, e4⟩ := ni.yes p c _ (by rw [nx_new]; exact hpc)
    have e3 : t = b := Option.some.inj e3
    subst e3
    have : t = heads[j] := Option.some.inj (e4.symm.trans pj)
    subst this
    have fP := List.mem_of_getElem? e1
    have lP : Live rs es P0 := live_on e2 lj
    obtain ⟨h, hm, he, hle⟩ := hh.first P0 ((hs P0).mpr ⟨fP, lP⟩)
    have hle : found.idxOf h ≤ found.idxOf P0 := hle
    rw [idx_at nd e1] at hle
    obtain ⟨i, hi⟩ := List.mem_iff_getElem?.mp hm
    obtain ⟨fh, lh⟩ := inH hi
    obtain ⟨t', w', et⟩ := he.symm.way ⟨e2, lj⟩
    obtain ⟨d', ft'⟩ := edge fh w'.1
    -- the first of its lot stands no earlier
    have firstOf : ∀ {x y : Nat} {i : Nat}, heads[i]? = some x → y ∈ found → Live rs es y → Eqv rs es rs es y x → found.idxOf x ≤ found.idxOf y := fun {x y i} hx fy ly e => by
      obtain ⟨z, hz, ez, lz⟩ := hh.first y ((hs y).mpr ⟨fy, ly⟩)
      obtain ⟨i2, hi2⟩ := List.mem_iff_getElem?.mp hz
      have := hh.one i2 i z x hi2 hx (ez.trans e)
      subst this
      have : z = x := Option.some.inj (hi2.symm.trans hx)
      subst this
      exact lz
    have ge := firstOf hj ft' w'.2 et.symm
    have g2 := hmin _ c _ (by rw [nx_new]; exact d') ge
    have eqp : p = found.idxOf h := by omega
    have P0h : P0 = h := by
      have := at_idx fh
      rw [← eqp] at this
      exact Option.some.inj (e1.symm.trans this)
    subst P0h
    have ij : i < j := by
      rcases Nat.lt_trichotomy i j with l | l | l
      · exact l
      · subst l
        have : P0 = heads[i] := Option.some.inj (hi.symm.trans hj)
        rw [← this] at hp
        omega
      · have := pair_lt hh.up hj hi l
        have : found.idxOf heads[j] < found.idxOf P0 := this
        omega
    have oc := (nx_lt wide e2).2.1
    have val : nx out i c = some j := by
      cases e : nx out i c with
      | none => exact absurd ⟨e2, lj⟩ (none_ i P0 c _ hi oc e)
      | some j2 =>
        obtain ⟨t2, q, w2, hq, he2⟩ := some_ i P0 c j2 hi e
        have : t2 = heads[j] := Option.some.inj (w2.1.symm.trans e2)
        subst this
        rw [hh.one j2 j q heads[j] hq hj he2.symm]
    refine ⟨i, c, ij, val, fun i' c' j' hv hj' => ?_⟩
    have il : i' < heads.length := by
      have := (nx_lt ow hv).1
      omega
    have hi' := List.getElem?_eq_getElem il
    obtain ⟨t2, q, w2, hq, he2⟩ := some_ i' _ c' j' hi' hv
    obtain ⟨fi', _⟩ := inH hi'
    obtain ⟨d2, ft2⟩ := edge fi' w2.1
    have g3 := firstOf hq ft2 w2.2 he2
    have g4 : found.idxOf heads[j] ≤ found.idxOf q := by
      rcases Nat.lt_or_ge j j' with l | l
      · exact Nat.le_of_lt (pair_lt hh.up hj hq l)
      · have : j' = j := by omega
        subst this
        have : q = heads[j'] := Option.some.inj (hq.symm.trans hj)
        rw [this]
        exact Nat.le_refl _
    have g5 := hmin _ c' _ (by rw [nx_new]; exact d2) (Nat.le_trans g4 g3)
    rw [eqp] at g5
    rcases Nat.lt_trichotomy i i' with l | l | l
    · exact .inl l
    · subst l
      have : P0 = heads[i] := Option.some.inj (hi.symm.trans hi')
      rw [← this] at g5
      exact .inr ⟨rfl, by omega⟩
    · have := pair_lt hh.up hi' hi l
      have : found.idxOf heads[i'] < found.idxOf P0 := this
      omega
end
/-! ### what the smallest machine is, and machines of the same words -/
def Smallest (rs : Rws) (es : List Bool) (L : Nat) (out : Rws) (oe : List Bool) : Prop := (∃ ps, Canon rs es L ps out oe) ∨ (¬ Live rs es 0 ∧ out = [List.replicate L none] ∧ oe = [false])
theorem canon_live {rs : Rws} {es : List Bool} {L : Nat} {ps : List Nat} {out : Rws} {oe : List Bool} (C : Canon rs es L ps out oe) : Live rs es 0 := C.live 0 (List.mem_of_getElem? C.zero)
theorem smallest_eq {rs rs' : Rws} {es es' : List Bool} {L : Nat} {out out' : Rws} {oe oe' : List Bool} (h : Smallest rs es L out oe) (g : Smallest rs' es' L out' oe') (e : Eqv rs es rs' es' 0 0) : out = out' ∧ oe = oe' := by
  rcases h with ⟨ps, C⟩ | ⟨n, rfl, rfl⟩
  · rcases g with ⟨ps', C'⟩ | ⟨n', _, _⟩
    · exact canon_eq C C' e
    · exact absurd (e.live (canon_live C)) n'
  · rcases g with ⟨ps', C'⟩ | ⟨n', rfl, rfl⟩
    · exact absurd (e.symm.live (canon_live C')) n
    · exact ⟨rfl, rfl⟩
theorem nx_none_row {L c : Nat} : nx [List.replicate L none] 0 c = none := by
  unfold nx
  show (List.replicate L none).getD c none = none
  rw [List.getD_eq_getElem?_getD, List.getElem?_replicate]
  split <;> rfl
theorem smallest_eqv {rs : Rws} {es : List Bool} {L : Nat} {out : Rws} {oe : List Bool} (h : Smallest rs es L out oe) : Eqv out oe rs es 0 0 := by
  rcases h with ⟨ps, C⟩ | ⟨n, rfl, rfl⟩
  · exact canon_eqv C
  · intro w
    have e1 : acc rs es w 0 = false := by
      cases e : acc rs es w 0 with
      | false => rfl
      | true => exact absurd ⟨w, e⟩ n
    rw [e1]
    cases w with
    | nil => rfl
    | cons c w => exact acc_none nx_none_row
/-- one machine goes along with another one -/
theorem sim {rs rs' : Rws} {es es' : List Bool} (Rel : Nat → Nat → Prop) (h : ∀ s' s, Rel s' s → es'.getD s' false = es.getD s false ∧ ∀ c, (∃ t' t, nx rs' s' c = some t' ∧ nx rs s c = some t ∧ Rel t' t) ∨ (nx rs s c = none ∧ ∀ w, acc rs' es' (c :: w) s' = false)) : ∀ (w : List Nat) (s' s : Nat), Rel s' s → acc rs' es' w s' = acc rs es w s
  | [], s', s, r => (h s' s r).1
  | c :: w, s', s, r => by
    rcases (h s' s r).2 c with ⟨t', t, e1, e2, r'⟩ | ⟨e1, e2⟩
    · rw [acc_cons e1, acc_cons e2]
      exact sim Rel h w t' t r'
    · rw [e2 w, acc_none e1]
theorem nx_map {α : Type} {xs : List α} {f : α → List (Option Nat)} {s c : Nat} {x : α} (h : xs[s]? = some x) : nx (xs.map f) s c = (f x).getD c none := by
  have e : (xs.map f).getD s [] = f x := by
    rw [List.getD_eq_getElem?_getD, List.getElem?_map, h]
    rfl
  unfold nx
  rw [e]
theorem nx_ge {rs : Rws} {s c : Nat} (h : rs.length ≤ s) : nx rs s c = none := by
  have e : rs.getD s [] = [] := by
    rw [List.getD_eq_getElem?_getD, List.getElem?_eq_none h]
    rfl
  unfold nx
  rw [e]
  rfl
/-- each state twice: s and s + n go where s goes, to either of the two -/
structure Dbl (rs rs' : Rws) (es es' : List Bool) : Prop where
  len : rs'.length = rs.length + rs.length
  el : es.length = rs.length
  ee : es' = es ++ es
  go : ∀ (s s' c : Nat), s < rs.length → (s' = s ∨ s' = s + rs.length) → (nx rs s c = none ∧ nx rs' s' c = none) ∨ ∃ t, nx rs s c = some t ∧ (nx rs' s' c = some t ∨ nx rs' s' c = some (t + rs.length))
theorem dbl_eqv {rs rs' : Rws} {es es' : List Bool} (h : Dbl rs rs' es es') (tgt : ∀ s c t, nx rs s c = some t → t < rs.length) (h1 : 1 ≤ rs.length) : Eqv rs' es' rs es 0 0 := fun w => by
  refine sim (fun s' s => s < rs.length ∧ (s' = s ∨ s' = s + rs.length)) (fun s' s hr => ?_) w 0 0 ⟨h1, .inl rfl⟩
  obtain ⟨hs, e⟩ := hr
  refine ⟨?_, fun c => ?_⟩
  · rw [h.ee, List.getD_eq_getElem?_getD, List.getD_eq_getElem?_getD]
    have el := h.el
    rcases e with e | e
    · rw [e, List.getElem?_append_left (by omega)]
    · rw [e, List.getElem?_append_right (by omega), el, Nat.add_sub_cancel]
  · rcases h.go s s' c hs e with ⟨e1, e2⟩ | ⟨t, e1, e2⟩
    · exact .inr ⟨e1, fun w => acc_none e2⟩
    · rcases e2 with e2 | e2
      · exact .inl ⟨_, _, e2, e1, tgt s c t e1, .inl rfl⟩
      · exact .inl ⟨_, _, e2, e1, tgt s c t e1, .inr rfl⟩
/-- some ways more, to a state without words -/
structure Mor (rs rs' : Rws) (es es' : List Bool) : Prop where
  el : es.length = rs.length
  es : ∀ s, s < rs.length → es'.getD s false = es.getD s false
  dead : es'.getD rs.length false = false ∧ ∀ c t, nx rs' rs.length c = some t → t = rs.length
  go : ∀ (s c : Nat), s < rs.length → (nx rs s c = none ∧ (nx rs' s c = none ∨ nx rs' s c = some rs.length)) ∨ ∃ t, nx rs s c = some t ∧ nx rs' s c = some t
theorem mor_eqv {rs rs' : Rws} {es es' : List Bool} (h : Mor rs rs' es es') (tgt : ∀ s c t, nx rs s c = some t → t < rs.length) (h1 : 1 ≤ rs.length) : Eqv rs' es' rs es 0 0 := fun w => by
  have dead : ∀ w, acc rs' es' w rs.length = false := by
    intro w
    induction w with
    | nil => exact h.dead.1
    | cons c w ih =>
      cases e : nx rs' rs.length c with
      | none => exact acc_none e
      | some t =>
        have := h.dead.2 c t e
        subst this
        rw [acc_cons e]
        exact ih
  refine sim (fun s' s => s < rs.length ∧ s' = s) (fun s' s hr => ?_) w 0 0 ⟨h1, rfl⟩
  obtain ⟨hs, rfl⟩ := hr
  refine ⟨h.es s' hs, fun c => ?_⟩
  rcases h.go s' c hs with ⟨e1, e2⟩ | ⟨t, e1, e2⟩
  · refine .inr ⟨e1, fun w => ?_⟩
    rcases e2 with e2 | e2
    · exact acc_none e2
    · rw [acc_cons e2]
      exact dead w
  · exact .inl ⟨t, t, e2, e1, tgt s' c t e1, rfl⟩
/-- the states in another order -/
structure Mix (rs rs' : Rws) (es es' : List Bool) (order : List Nat) : Prop where
  ol : order.length = rs.length
  zero : order[0]? = some 0
  es : es' = order.map fun s => es.getD s false
  go : ∀ (i s c : Nat), order[i]? = some s → (nx rs s c = none ∧ nx rs' i c = none) ∨ ∃ t j, nx rs s c = some t ∧ nx rs' i c = some j ∧ order[j]? = some t
theorem mix_eqv {rs rs' : Rws} {es es' : List Bool} {order : List Nat} (h : Mix rs rs' es es' order) : Eqv rs' es' rs es 0 0 := fun w => by
  refine sim (fun s' s => order[s']? = some s) (fun s' s hr => ?_) w 0 0 h.zero
  refine ⟨?_, fun c => ?_⟩
  · rw [h.es, List.getD_eq_getElem?_getD, List.getElem?_map, hr]
    rfl
  · rcases h.go s' s c hr with ⟨e1, e2⟩ | ⟨t, j, e1, e2, e3⟩
    · exact .inr ⟨e1, fun w => acc_none e2⟩
    · exact .inl ⟨j, t, e2, e1, e3⟩
/-! long rows and rings -/
structure Lng (n : Nat) (ring : Bool) (rs : Rws) (es : List Bool) : Prop where
  pos : 1 ≤ n
  len : rs.length = n
  el : es.length = n
  wide : ∀ r ∈ rs, r.length = 1
  go : ∀ s, s + 1 < n → nx rs s 0 = some (s + 1)
  last : nx rs (n - 1) 0 = if ring = true then some 0 else none
  en : ∀ s, s < n → es.getD s false = decide (s = n - 1)
section
variable {n : Nat} {ring : Bool} {rs : Rws} {es : List Bool}
theorem Lng.reach (h : Lng n ring rs es) : ∀ (k s : Nat), s + k < n → acc rs es (List.replicate k 0) s = decide (s + k = n - 1)
  | 0, s, hs => h.en s hs
  | k + 1, s, hs => by
    rw [List.replicate_succ, acc_cons (h.go s (by omega)), h.reach k (s + 1) (by omega)]
    rw [decide_eq_decide]
    omega
theorem Lng.live (h : Lng n ring rs es) {s : Nat} (hs : s < n) : Live rs es s := ⟨List.replicate (n - 1 - s) 0, by rw [h.reach _ _ (by omega)]; exact decide_eq_true (by omega)⟩
theorem Lng.val (h : Lng n ring rs es) {s c t : Nat} (e : nx rs s c = some t) : c = 0 ∧ s < n ∧ ((s + 1 < n ∧ t = s + 1) ∨ (s = n - 1 ∧ ring = true ∧ t = 0)) := by
  obtain ⟨h1, h2, _⟩ := nx_lt h.wide e
  have hl := h.len
  have : c = 0 := by omega
  subst this
  refine ⟨rfl, by omega, ?_⟩
  by_cases z : s + 1 < n
  · rw [h.go s z] at e
    exact .inl ⟨z, (Option.some.inj e).symm⟩
  · have : s = n - 1 := by omega
    subst this
    rw [h.last] at e
    split at e
    · rename_i r
      exact .inr ⟨rfl, r, (Option.some.inj e).symm⟩
    · cases e
/-- a longer way than to the end: around the ring, or nowhere -/
theorem Lng.past (h : Lng n ring rs es) : ∀ (k s : Nat), s < n → n ≤ s + k → s + k + 1 < n + n → acc rs es (List.replicate k 0) s = false
  | 0, s, hs, h1, _ => absurd h1 (by omega)
  | k + 1, s, hs, h1, h2 => by
    by_cases z : s + 1 < n
    · rw [List.replicate_succ, acc_cons (h.go s z)]
      exact h.past k (s + 1) z (by omega) (by omega)
    · have e : s = n - 1 := by omega
      subst e
      have l := h.last
      by_cases r : ring = true
      · rw [if_pos r] at l
        rw [List.replicate_succ, acc_cons l, h.reach k 0 (by omega)]
        exact decide_eq_false (by omega)
      · rw [if_neg r] at l
        rw [List.replicate_succ, acc_none l]
theorem Lng.canon (h : Lng n ring rs es) : Canon rs es 1 (List.range n) rs es where
  lo := by rw [h.len, List.length_range]
  le := by rw [h.el, List.length_range]
  zero := by rw [List.getElem?_range (show 0 < n from h.pos)]
  live := fun p hp => h.live (List.mem_range.mp hp)
  one := fun i j p q hp hq e => by
    have lp := (List.getElem?_eq_some_iff.mp hp).1
    have lq := (List.getElem?_eq_some_iff.mp hq).1
    rw [List.length_range] at lp lq
    rw [List.getElem?_range lp] at hp
    rw [List.getElem?_range lq] at hq
    cases hp
    cases hq
    have one : ∀ {i j : Nat}, i < n → j < n → Eqv rs es rs es i j → ¬ i < j := fun {i j} lp lq e l => by
      have h1 := e (List.replicate (n - 1 - i) 0)
      rw [h.reach _ _ (by omega), decide_eq_true (by omega), h.past _ _ lq (by omega) (by omega)] at h1
      cases h1
    have a := one lp lq e
    have b := one lq lp e.symm
    omega
  wide := h.wide
  ends := fun i p hp => by
    have lp := (List.getElem?_eq_some_iff.mp hp).1
    rw [List.length_range] at lp
    rw [List.getElem?_range lp] at hp
    cases hp
    rw [List.getD_eq_getElem?_getD, List.getElem?_eq_getElem (by rw [h.el]; exact lp)]
    rfl
  some_ := fun i p c j hp hj => by
    have lp := (List.getElem?_eq_some_iff.mp hp).1
    rw [List.length_range] at lp
    rw [List.getElem?_range lp] at hp
    cases hp
    have lj : j < n := by
      obtain ⟨_, _, q | q⟩ := h.val hj
      · omega
      · have := h.pos
        omega
    exact ⟨j, j, ⟨hj, h.live lj⟩, List.getElem?_range lj, Eqv.refl j⟩
  none_ := fun i p c t hp _ hn w => by
    have lp := (List.getElem?_eq_some_iff.mp hp).1
    rw [List.length_range] at lp
    rw [List.getElem?_range lp] at hp
    cases hp
    have := w.1
    rw [hn] at this
    cases this
  over := fun p c t _ w => (nx_lt h.wide w.1).2.1
  ord := fun j h1 h2 => by
    rw [List.length_range] at h2
    refine ⟨j - 1, 0, by omega, by rw [h.go (j - 1) (by omega)]; exact congrArg some (by omega), fun i' c' j' e hj => ?_⟩
    obtain ⟨rfl, _, q | q⟩ := h.val e
    · by_cases z : j - 1 = i'
      · exact .inr ⟨z, Nat.le_refl _⟩
      · exact .inl (by omega)
    · omega
end
/-! ### rules for lists that HandS has none for -/
section
variable {X : Cx}
def tTruL (K : PySem.W.Frag) (t : TE) : TT := fun σ H Q => t σ H fun x H1 => ∃ a xs, x = .ref a ∧ SqL K H1 a xs ∧ Q (!xs.isEmpty) H1
theorem pt_lstT {e : Expr} {t : TE} (he : PE X e t) (hi : ∀ whole, isTrue e X.env whole = (do let v ← whole; standAt e.pos; holding [v] (truthy v)) := by intro _; rfl) : PT X e (tTruL X.K t) := by
  refine ⟨fun pins s σ H Q I h => ?_⟩
  refine isTrue_plain (thn (he.run pins s σ H _ I h) fun v s1 ⟨x, H1, I1, r1, a, xs, ex, hd, q⟩ => ?_) (hi _)
  subst ex
  cases r1
  obtain ⟨its, rv, pl, hz⟩ := I1.list hd
  have hlen := rv.length
  have hl' := pl.isList
  refine PySem.wpAny_truthy_list hl' (by simp only [List.size_toArray]; have hn := line63; omega) ?_
  have e3 : (!its.toArray.isEmpty) = (!xs.isEmpty) := by
    cases xs <;> cases its <;> first | rfl | (simp at hlen)
  rw [e3]
  exact ⟨H1, I1.tok _, q⟩
/-- o[i] of a list, i from the front -/
def rGetL (K : PySem.W.Frag) : V → V → Hp → VK → Prop := fun o i H Q => ∃ (p : Addr) (xs : List V) (j : Nat) (z : V), o = .ref p ∧ i = .int (j : Int) ∧ SqL K H p xs ∧ xs[j]? = some z ∧ Q z H
theorem pget_list : PGet X (rGetL X.K) := by
  intro pins s σ H o i ov iv Q I ro ri h
  obtain ⟨p, xs, j, z, rfl, rfl, hq, he, q⟩ := h
  cases ro
  obtain ⟨t, rfl⟩ := ri
  obtain ⟨its, r, pl, hz⟩ := I.list hq
  obtain ⟨w, ew, rw'⟩ := r.get he
  have hl := r.length
  have hn := line63
  have hj := (List.getElem?_eq_some_iff.mp he).1
  exact PyProof.Rows.getItem_listL pl.isList (by omega) (by omega) (by simpa using ew) ⟨z, H, I, rw', q⟩
end

/-! ### lists that a comprehension makes -/
def NInv {α : Type} (f : α → V) (xs : List α) (H : Hp) (D : Addr) (i : Nat) (H' : Hp) : Prop := Same H H' ∧ H' D = some (.lst ((xs.take i).map f))
theorem nstart {α : Type} {f : α → V} {xs : List α} {H : Hp} {D : Addr} (hD : H D = none) : NInv f xs H D 0 (upd H D (.lst [])) := ⟨same_new hD, upd_same⟩
theorem nturn {α : Type} {f : α → V} {xs : List α} {H H' H'' : Hp} {D : Addr} {i : Nat} {x : α} (hz : xs.length < sizeLine) (hD : H D = none) (hx : xs[i]? = some x) (p : NInv f xs H D i H') (s2 : Same H' H'') :
    ∃ acc, H'' D = some (.lst acc) ∧ acc.length < sizeLine ∧ NInv f xs H D (i + 1) (upd H'' D (.lst (acc ++ [f x]))) := by
  obtain ⟨sm, hl⟩ := p
  refine ⟨_, s2 _ _ hl, ?_, fun b o q => ?_, ?_⟩
  · rw [List.length_map, List.length_take]
    omega
  · rw [upd_ne (ne_of_none q hD)]
    exact s2 _ _ (sm _ _ q)
  · rw [upd_same, List.take_add_one, hx, List.map_append]
    rfl
theorem nend {α : Type} {f : α → V} {xs : List α} {H H' : Hp} {D : Addr} {n : Nat} (e : n = xs.length) (p : NInv f xs H D n H') : Same H H' ∧ H' D = some (.lst (xs.map f)) := by
  obtain ⟨sm, hl⟩ := p
  rw [e, List.take_length] at hl
  exact ⟨sm, hl⟩
/-! .. by picking some -/
def KInv {α : Type} (t : α → Bool) (f : α → V) (xs : List α) (H : Hp) (D : Addr) (i : Nat) (H' : Hp) : Prop := Same H H' ∧ H' D = some (.lst (((xs.take i).filter t).map f))
theorem kstart {α : Type} {t : α → Bool} {f : α → V} {xs : List α} {H : Hp} {D : Addr} (hD : H D = none) : KInv t f xs H D 0 (upd H D (.lst [])) := ⟨same_new hD, upd_same⟩
theorem kyes {α : Type} {t : α → Bool} {f : α → V} {xs : List α} {H H' H'' : Hp} {D : Addr} {i : Nat} {x : α} (hz : xs.length < sizeLine) (hD : H D = none) (hx : xs[i]? = some x) (ht : t x = true) (p : KInv t f xs H D i H') (s2 : Same H' H'') :
    ∃ acc, H'' D = some (.lst acc) ∧ acc.length < sizeLine ∧ KInv t f xs H D (i + 1) (upd H'' D (.lst (acc ++ [f x]))) := by
  obtain ⟨sm, hl⟩ := p
  refine ⟨_, s2 _ _ hl, ?_, fun b o q => ?_, ?_⟩
  · rw [List.length_map]
    have h1 := List.length_filter_le t (xs.take i)
    rw [List.length_take] at h1
    omega
  · rw [upd_ne (ne_of_none q hD)]
    exact s2 _ _ (sm _ _ q)
  · rw [upd_same, List.take_add_one, hx, List.filter_append, List.map_append]
    show _ = some (HO.lst (_ ++ ([x].filter t).map f))
    rw [List.filter_cons, if_pos ht]
    rfl
theorem kno {α : Type} {t : α → Bool} {f : α → V} {xs : List α} {H H' H'' : Hp} {D : Addr} {i : Nat} {x : α} (hx : xs[i]? = some x) (ht : t x = false) (p : KInv t f xs H D i H') (s2 : Same H' H'') : KInv t f xs H D (i + 1) H'' := by
  obtain ⟨sm, hl⟩ := p
  refine ⟨sm.trans s2, ?_⟩
  rw [s2 _ _ hl, List.take_add_one, hx, List.filter_append, List.map_append]
  show _ = some (HO.lst (_ ++ ([x].filter t).map f))
  rw [List.filter_cons, if_neg (by rw [ht]; exact Bool.false_ne_true)]
  simp
theorem kend {α : Type} {t : α → Bool} {f : α → V} {xs : List α} {H H' : Hp} {D : Addr} {n : Nat} (e : n = xs.length) (p : KInv t f xs H D n H') : Same H H' ∧ H' D = some (.lst ((xs.filter t).map f)) := by
  obtain ⟨sm, hl⟩ := p
  rw [e, List.take_length] at hl
  exact ⟨sm, hl⟩

/-! ### the dict of numbers, by the order in which they came -/
def numKv (k : Nat) : List Nat → List (Key × V)
  | [] => []
  | b :: bs => (.inl (b : Int), .int (k : Int)) :: numKv (k + 1) bs
theorem numKv_len : ∀ (nums : List Nat) (k : Nat), (numKv k nums).length = nums.length
  | [], _ => rfl
  | b :: bs, k => congrArg (· + 1) (numKv_len bs (k + 1))
theorem numKv_snoc : ∀ (nums : List Nat) (k b : Nat), numKv k (nums ++ [b]) = numKv k nums ++ [(.inl (b : Int), .int ((k + nums.length : Nat) : Int))]
  | [], k, b => rfl
  | c :: bs, k, b => by
    show (_ :: numKv (k + 1) (bs ++ [b])) = _ :: (numKv (k + 1) bs ++ _)
    rw [numKv_snoc bs (k + 1) b, List.length_cons, show k + 1 + bs.length = k + (bs.length + 1) by omega]
theorem inl_ne {a b : Nat} (h : a ≠ b) : (Sum.inl (a : Int) : Key) ≠ .inl (b : Int) := fun e => h (by have := Sum.inl.inj e; omega)
theorem numKv_any : ∀ (nums : List Nat) (k b : Nat), b ∉ nums → (numKv k nums).any (fun kv => decide (kv.1 = (.inl (b : Int) : Key))) = false
  | [], _, _, _ => rfl
  | c :: bs, k, b, h => by
    show (decide ((.inl (c : Int) : Key) = .inl (b : Int)) || (numKv (k + 1) bs).any _) = false
    rw [decide_eq_false (inl_ne (a := c) (b := b) fun e => h (by rw [e]; exact List.mem_cons_self)), numKv_any bs (k + 1) b (fun q => h (List.mem_cons_of_mem c q))]
    rfl
theorem numKv_no {nums : List Nat} {k b : Nat} (h : b ∉ nums) : valV (numKv k nums) (.inl (b : Int)) = none := by
  unfold valV
  have := numKv_any nums k b h
  rw [List.any_eq_false] at this
  rw [List.find?_eq_none.mpr fun x hx => this x hx]
  rfl
theorem numKv_at : ∀ (nums : List Nat) (k j b : Nat), nums.Nodup → nums[j]? = some b → valV (numKv k nums) (.inl (b : Int)) = some (.int ((k + j : Nat) : Int))
  | [], _, _, _, _, h => by cases h
  | c :: bs, k, 0, b, _, h => by
    cases h
    unfold valV
    show Option.map _ (List.find? _ ((.inl (c : Int), .int (k : Int)) :: numKv (k + 1) bs)) = _
    rw [List.find?_cons_of_pos (by exact decide_eq_true rfl)]
    rfl
  | c :: bs, k, j + 1, b, nd, h => by
    obtain ⟨n1, n2⟩ := List.nodup_cons.mp nd
    have h' : bs[j]? = some b := h
    have ne : c ≠ b := fun e => n1 (e ▸ List.mem_of_getElem? h')
    have ih := numKv_at bs (k + 1) j b n2 h'
    unfold valV at ih ⊢
    show Option.map _ (List.find? _ ((.inl (c : Int), .int (k : Int)) :: numKv (k + 1) bs)) = _
    rw [List.find?_cons_of_neg (by rw [decide_eq_true_eq]; exact inl_ne ne), ih, show k + 1 + j = k + (j + 1) by omega]
theorem numKv_put {nums : List Nat} {b : Nat} (h : b ∉ nums) : putK (numKv 0 nums) (.inl (b : Int)) (.int ((nums.length : Nat) : Int)) = numKv 0 (nums ++ [b]) := by
  unfold putK
  rw [if_neg (by rw [numKv_any nums 0 b h]; exact Bool.false_ne_true), numKv_snoc, Nat.zero_add]
theorem oV_at {block : List (Option Nat)} {t : Nat} (h : t < block.length) : (block.map oV)[t]? = some (oV (bv block t)) := by
  unfold bv
  rw [List.getElem?_map, getD_at h, List.getElem?_eq_getElem h]
  rfl
theorem keep_store {B : Addr → Prop} {H : Hp} {p : Addr} {o : HO} (hp : B p) : Keep B H (upd H p o) := fun b u nb e => by
  rw [upd_ne (show b ≠ p from fun z => nb (by rw [z]; exact hp))]
  exact e
theorem rd_keep {H : Hp} {a : Addr} {xs : List V} {o : HO} {p : Addr} (h : Rd H a (.tup xs)) (hp : H p = some o) (no : ∀ ys, o ≠ .tup ys) (nf : ∀ ob ys, o ≠ .frz ob (.tup ys)) {u : HO} : Rd (upd H p u) a (.tup xs) := by
  have ne : a ≠ p := fun z => by
    rw [z] at h
    rcases h with h | ⟨ob, h⟩
    · rw [hp] at h
      exact no _ (Option.some.inj h)
    · rw [hp] at h
      exact nf _ _ (Option.some.inj h)
  rcases h with h | ⟨ob, h⟩
  · exact .inl (by rw [upd_ne ne]; exact h)
  · exact .inr ⟨ob, by rw [upd_ne ne]; exact h⟩

/-! ### how many, and which -/
theorem live_lt {rs : Rws} {es : List Bool} {L : Nat} (wide : ∀ r ∈ rs, r.length = L) (el : es.length = rs.length) {s : Nat} (h : Live rs es s) : s < rs.length := by
  obtain ⟨w, hw⟩ := h
  cases w with
  | nil =>
    have hw : es.getD s false = true := hw
    rcases Nat.lt_or_ge s es.length with l | l
    · omega
    · rw [List.getD_eq_getElem?_getD, List.getElem?_eq_none l] at hw
      cases hw
  | cons c w =>
    cases e : nx rs s c with
    | none =>
      rw [acc_none e] at hw
      cases hw
    | some t => exact (nx_lt wide e).1
theorem canon_many {rs : Rws} {es : List Bool} {L : Nat} {ps : List Nat} {out : Rws} {oe : List Bool} (C : Canon rs es L ps out oe) (wide : ∀ r ∈ rs, r.length = L) (el : es.length = rs.length) : (∀ p ∈ ps, p < rs.length) ∧ ps.length ≤ rs.length := by
  have h1 : ∀ p ∈ ps, p < rs.length := fun p hp => live_lt wide el (C.live p hp)
  refine ⟨h1, nodup_len (List.pairwise_iff_getElem.mpr fun i j hi hj l e => ?_) h1⟩
  have := C.one i j _ _ (List.getElem?_eq_getElem hi) (List.getElem?_eq_getElem hj) (by rw [e]; exact Eqv.refl _)
  omega
theorem smallest_len {rs : Rws} {es : List Bool} {L : Nat} {out : Rws} {oe : List Bool} (h : Smallest rs es L out oe) : oe.length = out.length := by
  rcases h with ⟨ps, C⟩ | ⟨_, rfl, rfl⟩
  · rw [C.le, C.lo]
  · rfl
/-! ### the ways backwards, as they lie -/
structure BA (H : Hp) (bf : Addr) (ws : List Addr) (cs : List (List Addr)) (L n : Nat) (f : Nat → Nat → List Nat) : Prop where
  wl : ws.length = L
  cl : cs.length = L
  top : H bf = some (.lst (ws.map V.ref))
  mid : ∀ (c : Nat) (w : Addr) (cc : List Addr), ws[c]? = some w → cs[c]? = some cc → H w = some (.lst (cc.map V.ref)) ∧ cc.length = n
  low : ∀ (c t : Nat) (cc : List Addr) (a : Addr), cs[c]? = some cc → cc[t]? = some a → H a = some (.lst ((f c t).map natV))
/-- which addresses these are -/
def BAd (bf : Addr) (ws : List Addr) (cs : List (List Addr)) (a : Addr) : Prop := a = bf ∨ a ∈ ws ∨ ∃ cc ∈ cs, a ∈ cc
theorem BA.keep {H H' : Hp} {bf : Addr} {ws : List Addr} {cs : List (List Addr)} {L n : Nat} {f : Nat → Nat → List Nat} (h : BA H bf ws cs L n f) {W : Addr → Prop} (k : Keep W H H') (nw : ∀ a, BAd bf ws cs a → ¬ W a) : BA H' bf ws cs L n f where
  wl := h.wl
  cl := h.cl
  top := k _ _ (nw _ (.inl rfl)) h.top
  mid := fun c w cc hw hc => by
    obtain ⟨h1, h2⟩ := h.mid c w cc hw hc
    exact ⟨k _ _ (nw _ (.inr (.inl (List.mem_of_getElem? hw)))) h1, h2⟩
  low := fun c t cc a hc ha => k _ _ (nw _ (.inr (.inr ⟨cc, List.mem_of_getElem? hc, List.mem_of_getElem? ha⟩))) (h.low c t cc a hc ha)
theorem BA.same {H H' : Hp} {bf : Addr} {ws : List Addr} {cs : List (List Addr)} {L n : Nat} {f : Nat → Nat → List Nat} (h : BA H bf ws cs L n f) (s : Same H H') : BA H' bf ws cs L n f := h.keep (W := fun _ => False) (Keep.same s) (fun _ _ z => z)
/-- the cells that are being laid -/
structure Cells (H0 H : Hp) (D : Addr) (as : List Addr) : Prop where
  sm : Same H0 H
  top : H D = some (.lst (as.map V.ref))
  low : ∀ a ∈ as, H a = some (.lst []) ∧ H0 a = none
  nd : as.Nodup
  no : D ∉ as
structure Ways (H0 H : Hp) (D : Addr) (n : Nat) (ws : List Addr) (cs : List (List Addr)) : Prop where
  sm : Same H0 H
  top : H D = some (.lst (ws.map V.ref))
  ln : ws.length = cs.length
  mid : ∀ (c : Nat) (w : Addr) (cc : List Addr), ws[c]? = some w → cs[c]? = some cc → H w = some (.lst (cc.map V.ref)) ∧ cc.length = n
  low : ∀ (cc : List Addr) (a : Addr), cc ∈ cs → a ∈ cc → H a = some (.lst []) ∧ H0 a = none
  fw : ∀ w ∈ ws, H0 w = none
  nd : cs.flatten.Nodup
  nw : ∀ a ∈ cs.flatten, a ∉ ws ∧ a ≠ D
  dw : D ∉ ws
theorem ite_iff {p q : Prop} [Decidable p] [Decidable q] {α : Type} {a b : α} (h : p ↔ q) : (if p then a else b) = if q then a else b := by
  by_cases z : p
  · rw [if_pos z, if_pos (h.mp z)]
  · rw [if_neg z, if_neg (fun y => z (h.mpr y))]
theorem sfree {H H' : Hp} {p : Addr} (s : Same H H') (h : H' p = none) : H p = none := by
  cases e : H p with
  | none => rfl
  | some o =>
    rw [s _ _ e] at h
    cases h
theorem Cells.step {H0 H : Hp} {D a : Addr} {as : List Addr} (h : Cells H0 H D as) (nD : H0 D = none) (na : H a = none) : Cells H0 (upd (upd H a (.lst [])) D (.lst (as.map V.ref ++ [.ref a]))) D (as ++ [a]) := by
  have aD : a ≠ D := fun z => by rw [z, h.top] at na; cases na
  have nas : ∀ x ∈ as, x ≠ a := fun x hx z => by rw [← z, (h.low x hx).1] at na; cases na
  have nad : ∀ x ∈ as, x ≠ D := fun x hx z => h.no (z ▸ hx)
  refine ⟨fun b u e => ?_, by rw [upd_same, List.map_append]; rfl, fun x hx => ?_, ?_, fun q => ?_⟩
  · have h1 := h.sm _ _ e
    rw [upd_ne (ne_of_none e nD), upd_ne (ne_of_none h1 na)]
    exact h1
  · rcases List.mem_append.mp hx with hx | hx
    · obtain ⟨h1, h2⟩ := h.low x hx
      exact ⟨by rw [upd_ne (nad x hx), upd_ne (nas x hx)]; exact h1, h2⟩
    · rw [List.mem_singleton.mp hx]
      exact ⟨by rw [upd_ne aD, upd_same], sfree h.sm na⟩
  · rw [List.nodup_append]
    refine ⟨h.nd, List.nodup_cons.mpr ⟨List.not_mem_nil, List.nodup_nil⟩, fun x hx y hy => ?_⟩
    rw [List.mem_singleton.mp hy]
    exact nas x hx
  · rcases List.mem_append.mp q with q | q
    · exact h.no q
    · exact aD (List.mem_singleton.mp q).symm
theorem Ways.step {H0 H1 H2 : Hp} {D D2 : Addr} {n : Nat} {ws : List Addr} {cs : List (List Addr)} {as : List Addr} (h : Ways H0 H1 D n ws cs) (g : Cells H1 H2 D2 as) (nD : H0 D = none) (nD2 : H1 D2 = none) (hl : as.length = n) :
    Ways H0 (upd H2 D (.lst (ws.map V.ref ++ [.ref D2]))) D n (ws ++ [D2]) (cs ++ [as]) := by
  have dd : D2 ≠ D := fun z => by rw [z, h.top] at nD2; cases nD2
  have wS : ∀ w ∈ ws, ∃ o, H1 w = some o := fun w hw => by
    obtain ⟨c, hc⟩ := List.mem_iff_getElem?.mp hw
    have l := (List.getElem?_eq_some_iff.mp hc).1
    exact ⟨_, (h.mid c w _ hc (List.getElem?_eq_getElem (by rw [← h.ln]; exact l))).1⟩
  have oldS : ∀ a ∈ cs.flatten, H1 a = some (.lst []) := fun a ha => by
    obtain ⟨cc, h1, h2⟩ := List.mem_flatten.mp ha
    exact (h.low cc a h1 h2).1
  have nas : ∀ a ∈ as, a ≠ D := fun a ha z => by
    have := (g.low a ha).2
    rw [z, h.top] at this
    cases this
  have fl : (cs ++ [as]).flatten = cs.flatten ++ as := by simp
  refine ⟨fun b u e => ?_, by rw [upd_same, List.map_append]; rfl, by rw [List.length_append, List.length_append, h.ln]; rfl, fun c w cc hw hc => ?_, fun cc a hcc ha => ?_, fun w hw => ?_, ?_, fun a ha => ?_, fun q => ?_⟩
  · rw [upd_ne (ne_of_none e nD)]
    exact g.sm _ _ (h.sm _ _ e)
  · rcases Nat.lt_or_ge c ws.length with l | l
    · rw [List.getElem?_append_left l] at hw
      rw [List.getElem?_append_left (by rw [← h.ln]; exact l)] at hc
      obtain ⟨h1, h2⟩ := h.mid c w cc hw hc
      exact ⟨by rw [upd_ne (show w ≠ D from fun z => h.dw (by rw [← z]; exact List.mem_of_getElem? hw))]; exact g.sm _ _ h1, h2⟩
    · have l2 := (List.getElem?_eq_some_iff.mp hw).1
      rw [List.length_append, List.length_singleton] at l2
      have e : c = ws.length := by omega
      rw [e, List.getElem?_append_right (Nat.le_refl _), Nat.sub_self] at hw
      rw [e, h.ln, List.getElem?_append_right (Nat.le_refl _), Nat.sub_self] at hc
      cases hw
      cases hc
      exact ⟨by rw [upd_ne dd]; exact g.top, hl⟩
  · rcases List.mem_append.mp hcc with hcc | hcc
    · obtain ⟨h1, h2⟩ := h.low cc a hcc ha
      exact ⟨by rw [upd_ne (h.nw a (List.mem_flatten.mpr ⟨cc, hcc, ha⟩)).2]; exact g.sm _ _ h1, h2⟩
    · rw [List.mem_singleton.mp hcc] at ha
      obtain ⟨h1, h2⟩ := g.low a ha
      exact ⟨by rw [upd_ne (nas a ha)]; exact h1, sfree h.sm h2⟩
  · rcases List.mem_append.mp hw with hw | hw
    · exact h.fw w hw
    · rw [List.mem_singleton.mp hw]
      exact sfree h.sm nD2
  · rw [fl, List.nodup_append]
    refine ⟨h.nd, g.nd, fun x hx y hy e => ?_⟩
    have h1 := oldS x hx
    rw [e, (g.low y hy).2] at h1
    cases h1
  · rw [fl] at ha
    rcases List.mem_append.mp ha with ha | ha
    · refine ⟨fun q => ?_, (h.nw a ha).2⟩
      rcases List.mem_append.mp q with q | q
      · exact (h.nw a ha).1 q
      · have h1 := oldS a ha
        rw [List.mem_singleton.mp q, nD2] at h1
        cases h1
    · refine ⟨fun q => ?_, nas a ha⟩
      rcases List.mem_append.mp q with q | q
      · obtain ⟨o, h1⟩ := wS a q
        rw [(g.low a ha).2] at h1
        cases h1
      · exact g.no ((List.mem_singleton.mp q) ▸ ha)
  · rcases List.mem_append.mp q with q | q
    · exact h.dw q
    · exact dd (List.mem_singleton.mp q).symm
theorem flat_one : ∀ {cs : List (List Addr)} {c c' t t' : Nat} {cc cc' : List Addr} {a : Addr}, cs.flatten.Nodup → cs[c]? = some cc → cs[c']? = some cc' → cc[t]? = some a → cc'[t']? = some a → c = c' ∧ t = t'
  | [], _, _, _, _, _, _, _, _, h, _, _, _ => by cases h
  | x :: cs, c, c', t, t', cc, cc', a, nd, h1, h2, h3, h4 => by
    rw [List.flatten_cons, List.nodup_append] at nd
    obtain ⟨n1, n2, n3⟩ := nd
    have inT : ∀ {c : Nat} {cc : List Addr}, cs[c]? = some cc → a ∈ cc → a ∈ cs.flatten := fun h m => List.mem_flatten.mpr ⟨_, List.mem_of_getElem? h, m⟩
    match c, c', h1, h2 with
    | 0, 0, h1, h2 =>
      cases h1
      cases h2
      have l := (List.getElem?_eq_some_iff.mp h3).1
      exact ⟨rfl, (List.getElem?_inj l n1).mp (h3.trans h4.symm)⟩
    | 0, c' + 1, h1, h2 =>
      cases h1
      exact absurd rfl (n3 a (List.mem_of_getElem? h3) a (inT h2 (List.mem_of_getElem? h4)))
    | c + 1, 0, h1, h2 =>
      cases h2
      exact absurd rfl (n3 a (List.mem_of_getElem? h4) a (inT h1 (List.mem_of_getElem? h3)))
    | c + 1, c' + 1, h1, h2 =>
      obtain ⟨e1, e2⟩ := flat_one n2 h1 h2 h3 h4
      exact ⟨congrArg (· + 1) e1, e2⟩
theorem Ways.ba {H0 H : Hp} {D : Addr} {n L : Nat} {ws : List Addr} {cs : List (List Addr)} (h : Ways H0 H D n ws cs) (hl : ws.length = L) : BA H D ws cs L n (fun _ _ => []) :=
  ⟨hl, by rw [← h.ln]; exact hl, h.top, h.mid, fun c t cc a hc ha => (h.low cc a (List.mem_of_getElem? hc) (List.mem_of_getElem? ha)).1⟩
theorem BA.add {H : Hp} {D : Addr} {n L : Nat} {ws : List Addr} {cs : List (List Addr)} {f f' : Nat → Nat → List Nat} (h : BA H D ws cs L n f) (nd : cs.flatten.Nodup) (nw : ∀ a ∈ cs.flatten, a ∉ ws ∧ a ≠ D) {c t : Nat} {cc : List Addr} {a : Addr} (hc : cs[c]? = some cc) (ha : cc[t]? = some a)
    (hf : ∀ c' t', f' c' t' = if c' = c ∧ t' = t then f' c t else f c' t') : BA (upd H a (.lst ((f' c t).map natV))) D ws cs L n f' := by
  have am : a ∈ cs.flatten := List.mem_flatten.mpr ⟨cc, List.mem_of_getElem? hc, List.mem_of_getElem? ha⟩
  obtain ⟨aw, aD⟩ := nw a am
  refine ⟨h.wl, h.cl, by rw [upd_ne aD.symm]; exact h.top, fun c' w cc' h1 h2 => ?_, fun c' t' cc' a' h1 h2 => ?_⟩
  · obtain ⟨g1, g2⟩ := h.mid c' w cc' h1 h2
    exact ⟨by rw [upd_ne (show w ≠ a from fun z => aw (by rw [← z]; exact List.mem_of_getElem? h1))]; exact g1, g2⟩
  · by_cases e : a' = a
    · subst e
      obtain ⟨e1, e2⟩ := flat_one nd h1 hc h2 ha
      rw [e1, e2, upd_same]
    · rw [upd_ne e, hf, if_neg]
      · exact h.low c' t' cc' a' h1 h2
      · rintro ⟨rfl, rfl⟩
        rw [hc] at h1
        cases h1
        rw [ha] at h2
        exact e (Option.some.inj h2).symm

section
variable {P : Program} {w : World} {K : PySem.W.Frag} {mg : Str → Option Value} {base : Heap}
theorem scSources : FnScope ["letters", "rows", "order", "before", "_", "state", "letter", "target"] ["letters", "rows", "order"] (defScope sSources) := ⟨rfl, rfl, rfl, by decide +kernel, rfl, by decide +kernel, by decide +kernel⟩
def spSources : Sp := fun vs H Q _ => ∃ (L : Nat) (rs : Rows) (es : List Bool) (m pr pe od : Addr) (rvs : List V) (ord : List Nat), vs = [.int (L : Int), .ref pr, .ref od] ∧ MOk L rs es ∧ MA H L rs es m pr pe rvs ∧ H od = some (.lst (ord.map natV)) ∧ (∀ u ∈ ord, u < rs.length) ∧ ord.length ≤ 400 ∧
  ∀ (H' : Hp) (bf : Addr) (ws : List Addr) (cs : List (List Addr)), Same H H' → (∀ a, BAd bf ws cs a → H a = none) → BA H' bf ws cs L rs.length (fun c t => ord.filter fun s => decide (nx rs s c = some t)) → Q (.ref bf) H'
theorem ok_sources {f : Addr} {fd : FuncData} (F : Fun K "sources" "sources" sSources f fd) (T : Mg mg) : FnOk P w K mg base CX0 1 f fd ["letters", "rows", "order"] spSources := by
  refine F.ok scSources (fun vs H Q E h => ?_) (fun cdv A outer s H vs Q E hr h => ?_)
  · obtain ⟨L, rs, es, m, pr, pe, od, rvs, ord, rfl, _⟩ := h
    rfl
  · obtain ⟨L, rs, es, m, pr, pe, od, rvs, ord, rfl, M, MM, hod, olt, ol4, k⟩ := h
    have l4 := M.l400
    have L3 := M.L3
    refine ⟨_, (pss_cons (ps_setLc (i := 3) (own := [("_", 4)]) (g := gName 4) (tt := tYes) rfl scSources.nd rfl rfl (sw_true rfl rfl rfl (by decide +kernel)) (pi_range1 (by rfl) T.range (pa_cons (pv 0) pa_nil)) (blkOk_by (N := ["letters", "rows", "order", "before", "_", "state", "letter", "target"]) (sc := defScope sSources) (by decide +kernel)) (fun _ _ _ _ _ => pg_name (i := 4) scSources.nd rfl (Or.inl rfl)) (fun _ _ _ _ _ => pts_nil) (fun _ _ _ _ _ => (pe_lc (wi := iTup K _) (own := [("_", 4)]) (g := gName 4) (tt := tYes) rfl scSources.nd (pi_tup (pv 1)) (blkOk_by (by kernel_rfl)) (fun _ _ _ _ _ => pg_name (i := 4) scSources.nd rfl (Or.inl rfl)) (fun _ _ _ _ _ => pts_nil) (fun _ _ _ _ _ => (pe_lst pa_nil)))))
      (pss_cons (ps_for PassesOwn.never rfl (pi_list (pv 2)) (pg_name (i := 5) scSources.nd rfl (.inl rfl)) (pss_one (ps_for PassesOwn.never rfl (pi_enumT (by rfl) T.enum (pa_cons (pe_ix (r := rIxT K) ix_tup (pv 1) (pv 5) (fun _ _ => rfl)) pa_nil)) (pg_tup rfl (pgs_cons (pg_name (i := 6) scSources.nd rfl (.inl rfl)) (pgs_cons (pg_name (i := 7) scSources.nd rfl (.inl rfl)) pgs_nil))) (pss_one (ps_if (pt_cmp (pc_notN (pv 7))) (pss_one (ps_expr (pe_bm PySem.F.plainAttrs_list PySem.F.slot_list_append PySem.F.type_list_append mt_append (pe_ix (r := rIxL K) ix_list (pe_ix (r := rIxL K) ix_list (pv 3) (pv 6) (fun _ _ => rfl)) (pv 7) (fun _ _ => rfl)) (pa_cons (pv 5) pa_nil)))) pss_nil)))))
      (pss_one (ps_ret (pv 3))))), ?_⟩
    refine ⟨_, rfl, (L : Int), rfl, by omega, by omega, fun D nD => ?_⟩
    refine lc_range (lo := 0) (n := (L : Int).toNat) (fun j H' => ∃ ws cs, Ways H H' D rs.length ws cs ∧ ws.length = j) ⟨[], [], ⟨same_new nD, upd_same, rfl, (fun c w cc h => by cases h), fun cc a h => absurd h List.not_mem_nil, fun w h => absurd h List.not_mem_nil, List.nodup_nil, fun a h => absurd h List.not_mem_nil, List.not_mem_nil⟩, rfl⟩ ?_ ?_
    · rintro j H1 hj ⟨ws, cs, W1, lw⟩
      have MM1 := MM.same W1.sm
      refine ⟨rfl, _, rfl, pr, rfl, ⟨_, .inl MM1.hr⟩, fun D2 nD2 => ?_⟩
      refine lc_tup (K := K) (a := pr) (xs := rvs) (fun i H' => ∃ as, Cells H1 H' D2 as ∧ as.length = i) ⟨[], ⟨same_new nD2, upd_same, fun a h => absurd h List.not_mem_nil, List.nodup_nil, List.not_mem_nil⟩, rfl⟩ (fun i H' _ q => by
        obtain ⟨as, C, _⟩ := q
        exact .inl (MM1.same C.sm).hr) ?_ ?_
      · rintro i x H2 hx ⟨as, C, la⟩
        have hi := (List.getElem?_eq_some_iff.mp hx).1
        rw [MM.hl] at hi
        refine ⟨rfl, by show 0 ≤ sizeLine; decide, fun a na => ?_⟩
        have aD : D2 ≠ a := fun z => by rw [← z, C.top] at na; cases na
        exact ⟨_, by rw [upd_ne aD]; exact C.top, small1000 (by rw [List.length_map]; omega), as ++ [a], C.step nD2 na, by rw [List.length_append, la]; rfl⟩
      · rintro H2 ⟨as, C, la⟩
        exact ⟨_, C.sm _ _ W1.top, small1000 (by rw [List.length_map]; omega), ws ++ [D2], cs ++ [as], W1.step C nD nD2 (by rw [la]; exact MM.hl), by rw [List.length_append, lw]; rfl⟩
    · rintro H1 ⟨ws, cs, W1, lw⟩
      rw [Int.toNat_natCast] at lw
      have B1 := W1.ba lw
      have hod1 := W1.sm _ _ hod
      have nwo : ∀ a, BAd D ws cs a → H a = none := fun a z => by
        rcases z with rfl | z | ⟨cc, h1, h2⟩
        · exact nD
        · exact W1.fw a z
        · exact (W1.low cc a h1 h2).2
      refine ⟨_, rfl, od, rfl, ⟨_, SqL.of hod1⟩, ?_⟩
      refine for_list (K := K) (a := od) (xs := ord.map natV) (fun i σ H' => (∃ y5 y6 y7 : Option V, σ = [some (.int (L : Int)), some (.ref pr), some (.ref od), some (.ref D), none, y5, y6, y7]) ∧ Same H H' ∧ BA H' D ws cs L rs.length (fun c t => (ord.take i).filter fun s => decide (nx rs s c = some t)))
        ⟨⟨_, _, _, rfl⟩, W1.sm, B1⟩ (fun i σ H' _ p => SqL.of (p.2.1 _ _ hod)) ?_ (fun σ H' p => ?_)
      · rintro i x σ H2 hx ⟨⟨y5, y6, y7, rfl⟩, sm, Bi⟩
        obtain ⟨u, hu, rfl⟩ := natV_of hx
        have hun := olt u (List.mem_of_getElem? hu)
        have hrow : rs[u]? = some rs[u] := List.getElem?_eq_getElem hun
        have hmr := List.getElem_mem hun
        have hnx : ∀ c, nx rs u c = (rs[u]).getD c none := fun c => by
          unfold nx
          rw [getD_at hun]
        generalize rs[u] = row at *
        obtain ⟨q, hq1, hq0⟩ := MM.row u row hrow
        have tk : ord.take (i + 1) = ord.take i ++ [u] := by rw [List.take_add_one, hu]; rfl
        refine ⟨_, rfl, _, rfl, pr, rvs, (u : Int), _, rfl, rfl, .inl (same_rd sm MM.hr), atI_nat hq1, q, _, rfl, .inl (same_rd sm hq0), ?_⟩
        refine for_it (walk_enumT (K := K) (a := q) (xs := row.map oV)) (fun j σ H' => (∃ y6 y7 : Option V, σ = [some (.int (L : Int)), some (.ref pr), some (.ref od), some (.ref D), none, some (.int (u : Int)), y6, y7]) ∧ Same H H' ∧ ∃ f, BA H' D ws cs L rs.length f ∧ ∀ c t, f c t = ((ord.take i).filter fun s => decide (nx rs s c = some t)) ++ if c < j ∧ nx rs u c = some t then [u] else [])
          ⟨⟨_, _, rfl⟩, sm, _, Bi, fun c t => by rw [if_neg (by omega), List.append_nil]⟩ (fun j σ H' _ p => .inl (same_rd p.2.1 hq0)) ?_ ?_
        · rintro j x σ H3 H4 hj ⟨⟨y6, y7, rfl⟩, sm3, f, Bf, hf⟩ ⟨T1, va, vb, rfl, nT, rfl, ea, eb2⟩
          cases ea
          replace eb2 : (row.map oV)[j]? = some vb := eb2
          rw [List.getElem?_map] at eb2
          obtain ⟨tg, hjt, rfl⟩ := Option.map_eq_some_iff.mp eb2
          have sT := same_new (o := .tup [V.int (j : Nat), oV tg]) nT
          have nxj : nx rs u j = tg := by rw [hnx, List.getD_eq_getElem?_getD, hjt]; rfl
          have jL : j < L := by
            have := (List.getElem?_eq_some_iff.mp hjt).1
            rw [M.row row hmr] at this
            exact this
          have Bf := Bf.same sT
          have sm4 := sm3.trans sT
          refine ⟨T1, _, rfl, SqT.of upd_same, rfl, _, _, rfl, _, _, rfl, rfl, ?_⟩
          generalize upd H3 T1 (.tup [V.int (j : Nat), oV tg]) = G at *
          refine ⟨_, rfl, _, rfl, ?_⟩
          cases tg with
          | none =>
            refine ⟨⟨_, _, rfl⟩, sm4, f, Bf, fun c t => ?_⟩
            rw [hf]
            congr 1
            by_cases e : c = j
            · rw [e, nxj, if_neg (by rintro ⟨_, z⟩; cases z), if_neg (by rintro ⟨_, z⟩; cases z)]
            · have : (c < j + 1 ∧ nx rs u c = some t) ↔ (c < j ∧ nx rs u c = some t) := by
                constructor
                · rintro ⟨a1, a2⟩
                  exact ⟨by omega, a2⟩
                · rintro ⟨a1, a2⟩
                  exact ⟨by omega, a2⟩
              exact ite_iff this.symm
          | some t =>
            have tl := M.tgt row hmr t (List.mem_of_getElem? hjt)
            obtain ⟨w0, hw⟩ : ∃ w0, ws[j]? = some w0 := ⟨_, List.getElem?_eq_getElem (by rw [lw]; exact jL)⟩
            obtain ⟨cc, hcc⟩ : ∃ cc, cs[j]? = some cc := ⟨_, List.getElem?_eq_getElem (by rw [Bf.cl]; exact jL)⟩
            obtain ⟨g1, g2⟩ := Bf.mid j w0 cc hw hcc
            obtain ⟨a, hca⟩ : ∃ a, cc[t]? = some a := ⟨_, List.getElem?_eq_getElem (by rw [g2]; exact tl)⟩
            have g3 := Bf.low j t cc a hcc hca
            have fe : f j t = ((ord.take i).filter fun s => decide (nx rs s j = some t)) := by rw [hf, if_neg (by omega), List.append_nil]
            have fl : (f j t).length ≤ 400 := by
              rw [fe]
              refine Nat.le_trans (List.length_filter_le _ _) ?_
              rw [List.length_take]
              omega
            have am : BAd D ws cs a := .inr (.inr ⟨cc, List.mem_of_getElem? hcc, List.mem_of_getElem? hca⟩)
            refine ⟨_, rfl, _, rfl, D, _, (j : Int), V.ref w0, rfl, rfl, SqL.of Bf.top, atI_nat (v := V.ref w0) (by rw [List.getElem?_map, hw]; rfl), _, rfl, w0, _, (t : Int), V.ref a, rfl, rfl, SqL.of g1, atI_nat (v := V.ref a) (by rw [List.getElem?_map, hca]; rfl), .inl ⟨rfl, _, SqL.of g3⟩, _, rfl, a, _, _, rfl, rfl, g3, small1000 (by rw [List.length_map]; omega), ?_⟩
            have ev : (f j t).map natV ++ [V.int (u : Int)] = ((fun c' t' => ((ord.take i).filter fun s => decide (nx rs s c' = some t')) ++ if c' < j + 1 ∧ nx rs u c' = some t' then [u] else []) j t).map natV := by
              show _ = (((ord.take i).filter fun s => decide (nx rs s j = some t)) ++ if j < j + 1 ∧ nx rs u j = some t then [u] else []).map natV
              rw [if_pos ⟨Nat.lt_succ_self _, nxj⟩, List.map_append, fe]
              rfl
            rw [ev]
            refine ⟨⟨_, _, rfl⟩, fun b o e => ?_, _, Bf.add (f' := fun c' t' => ((ord.take i).filter fun s => decide (nx rs s c' = some t')) ++ if c' < j + 1 ∧ nx rs u c' = some t' then [u] else []) W1.nd W1.nw hcc hca fun c' t' => ?_, fun c t => rfl⟩
            · rw [upd_ne (fun z => by rw [z, nwo a am] at e; cases e)]
              exact sm4 _ _ e
            · by_cases e : c' = j ∧ t' = t
              · rw [if_pos e, e.1, e.2]
              · rw [if_neg e, hf]
                congr 1
                have : (c' < j + 1 ∧ nx rs u c' = some t') ↔ (c' < j ∧ nx rs u c' = some t') := by
                  constructor
                  · rintro ⟨a1, a2⟩
                    refine ⟨?_, a2⟩
                    by_cases y : c' = j
                    · rw [y, nxj] at a2
                      exact absurd ⟨y, (Option.some.inj a2).symm⟩ e
                    · omega
                  · rintro ⟨a1, a2⟩
                    exact ⟨by omega, a2⟩
                exact ite_iff this
        · rintro σ H3 ⟨⟨y6, y7, rfl⟩, sm3, f, Bf, hf⟩
          refine ⟨⟨_, _, _, rfl⟩, sm3, ?_⟩
          have : f = fun c t => (ord.take (i + 1)).filter fun s => decide (nx rs s c = some t) := by
            funext c t
            rw [hf, tk, List.filter_append, List.filter_cons, List.filter_nil]
            congr 1
            by_cases e : nx rs u c = some t
            · have cl := (nx_lt M.row e).2.1
              rw [if_pos ⟨by rw [List.length_map, M.row row hmr]; exact cl, e⟩, if_pos (decide_eq_true e)]
            · rw [if_neg (fun z => e z.2), if_neg (by rw [decide_eq_true_eq]; exact e)]
          rw [← this]
          exact Bf
      · obtain ⟨⟨y5, y6, y7, rfl⟩, sm, Bi⟩ := p
        rw [List.length_map, List.take_length] at Bi
        exact ⟨_, rfl, k H' D ws cs sm nwo Bi⟩
end
/-! ### what the law meets, numbered -/
/-- rows and ends as they lie, with no machine around them -/
structure MB (H : Hp) (L : Nat) (rs : Rows) (es : List Bool) (m pr pe : Addr) (rvs : List V) : Prop where
  hr : Rd H pr (.tup rvs)
  hl : rvs.length = rs.length
  row : ∀ (u : Nat) (row : List (Option Nat)), rs[u]? = some row → ∃ q, rvs[u]? = some (.ref q) ∧ Rd H q (.tup (row.map oV))
  he : Rd H pe (.tup (es.map V.bl))
theorem MB.same {H H' : Hp} {L : Nat} {rs : Rows} {es : List Bool} {m pr pe : Addr} {rvs : List V} (s : Same H H') (M : MB H L rs es m pr pe rvs) : MB H' L rs es m pr pe rvs :=
  ⟨same_rd s M.hr, M.hl, fun u row h => let ⟨q, h1, h2⟩ := M.row u row h; ⟨q, h1, same_rd s h2⟩, same_rd s M.he⟩
theorem MA.mb {H : Hp} {L : Nat} {rs : Rows} {es : List Bool} {m pr pe : Addr} {rvs : List V} (M : MA H L rs es m pr pe rvs) : MB H L rs es m pr pe rvs := ⟨M.hr, M.hl, M.row, M.he⟩
theorem nx_row {rs : Rws} {s c : Nat} {row : List (Option Nat)} {x : Option Nat} (h : rs[s]? = some row) (h2 : row[c]? = some x) : nx rs s c = x := by
  unfold nx
  rw [List.getD_eq_getElem?_getD, List.getD_eq_getElem?_getD, h]
  show (row[c]?).getD none = x
  rw [h2]
  rfl
section
variable {P : Program} {w : World} {K : PySem.W.Frag} {mg : Str → Option Value} {base : Heap}
def spMet : Sp := fun vs H Q _ => ∃ (L : Nat) (rs : Rows) (es : List Bool) (m pr pe : Addr) (rvs : List V), vs = [.ref pr] ∧ MOk L rs es ∧ MB H L rs es m pr pe rvs ∧
  ∀ (H' : Hp) (o : Addr) (found : List Nat) (done : Rws), Same H H' → H o = none → H' o = some (.lst (found.map natV)) → NI rs L some found found done [] → done.length = found.length → (∀ s ∈ found, s < rs.length) → Q (.ref o) H'
theorem ok_metN {f : Addr} {fd : FuncData} (F : Fun K "_law_met" "_law_met" sMet f fd) (T : Mg mg) : FnOk P w K mg base CX0 1 f fd ["_law_rows"] spMet := by
  refine F.ok scMet (fun vs H Q E h => ?_) (fun cdv A outer s H vs Q E hr h => ?_)
  · obtain ⟨L, rs, es, m, pr, pe, rvs, rfl, _⟩ := h
    rfl
  · obtain ⟨L, rs, es, m, pr, pe, rvs, rfl, M, MM, k⟩ := h
    refine ⟨_, pss_cons (ps_par (i := 1) (j := 2) rfl scMet.nd rfl rfl (by decide) rfl rfl (pa_cons (pe_lst (pa_cons pe_int pa_nil)) (pa_cons pe_int pa_nil)) (by rfl))
      (pss_cons (ps_while PassesOwn.never (pt_cmpR op_lt (pv 2) (pe_callB (r := rLen K) call_len_seq (by rfl) T.len PySem.boot_len (pa_cons (pv 1) pa_nil)) (nomark _))
        (pss_cons (ps_for PassesOwn.never rfl (pi_tup (pe_ix (r := rIxT K) ix_tup (pv 0) (pe_ix ix_list (pv 1) (pv 2) (fun _ _ => rfl)) (fun _ _ => rfl))) (pg_name (i := 3) scMet.nd rfl (.inl rfl))
          (pss_one (ps_if (PW.pt (pw_and (pt_cmp (pc_notN (pv 3))) (pw_and1 (pt_cmpR op_notIn_seq (pv 3) (pv 1) rfl))))
            (pss_one (ps_expr (pe_bm PySem.F.plainAttrs_list PySem.F.slot_list_append PySem.F.type_list_append mt_append (pv 1) (pa_cons (pv 3) pa_nil))))
            pss_nil)))
        (pss_one (ps_set (i := 2) scMet.nd rfl (.inl rfl) (pe_op op_add (pv 2) pe_int)))))
      (pss_one (ps_ret (pv 1)))), ?_⟩
    refine ⟨by show 1 ≤ sizeLine; decide, fun o ho => ?_⟩
    have s1 := same_new (o := .lst [.int 0]) ho
    have l4 := M.l400
    have l1 := M.l1
    refine ⟨_, _, rfl, ?_⟩
    refine while_by (fun σ H' => ∃ (ord : List Nat) (done : Rws) (y3 : Option V), σ = [some (.ref pr), some (.ref o), some (.int (done.length : Int)), y3] ∧ Same H H' ∧ H' o = some (.lst (ord.map natV)) ∧ NI rs L some ord ord done [] ∧ ∀ s ∈ ord, s < rs.length)
      (fun (σ : List (Option V)) (_ : Hp) => match σ[2]? with
        | some (some (V.int i)) => 401 - i.toNat
        | _ => 0) ⟨[0], [], none, rfl, s1, upd_same, ni_start rfl, fun s hs => by rw [List.mem_singleton.mp hs]; exact l1⟩ ?_ ?_
    · rintro σ H1 ⟨ord, done, y3, rfl, sm, h1, N, lt⟩
      have hol := nodup_len N.nd lt
      refine ⟨_, rfl, _, rfl, o, _, rfl, .inl (SqL.of h1), _, _, rfl, rfl, _, rfl, ite2 (fun hlt => ?_) fun hlt => ?_⟩
      · have hlt := of_decide_eq_true hlt
        rw [List.length_map] at hlt
        have hi : done.length < ord.length := by omega
        have hu : ord[done.length]? = some ord[done.length] := List.getElem?_eq_getElem hi
        have hmu := List.getElem_mem hi
        generalize ord[done.length] = u at *
        have hun := lt u hmu
        have hrow : rs[u]? = some rs[u] := List.getElem?_eq_getElem hun
        have hmr := List.getElem_mem hun
        generalize rs[u] = row at *
        have hrl := M.row row hmr
        have MM1 := MM.same sm
        obtain ⟨q, hq1, hq2⟩ := MM1.row u row hrow
        refine ⟨_, rfl, _, rfl, _, rfl, o, _, (done.length : Int), _, rfl, rfl, SqL.of h1, atI_nat (natV_get hu), pr, rvs, (u : Int), _, rfl, rfl, .inl MM1.hr, atI_nat hq1, q, rfl, ⟨_, .inl hq2⟩, ?_⟩
        refine for_tup (K := K) (a := q) (xs := row.map oV) (fun j σ H' => (∃ y3, σ = [some (.ref pr), some (.ref o), some (.int (done.length : Int)), y3]) ∧ Same H H' ∧ (∀ {a : Addr} {xs : List V}, Rd H1 a (.tup xs) → Rd H' a (.tup xs)) ∧ ∃ (ord' : List Nat) (nrow : List (Option Nat)), H' o = some (.lst (ord'.map natV)) ∧ NI rs L some ord' ord' done nrow ∧ nrow.length = j ∧ ord'[done.length]? = some u ∧ ∀ s ∈ ord', s < rs.length)
          ⟨⟨_, rfl⟩, sm, fun h => h, ord, [], h1, N, rfl, hu, lt⟩ (fun j σ H' _ p => .inl (p.2.2.1 hq2)) ?_ ?_
        · rintro j x σ H2 hx ⟨⟨y5, rfl⟩, sm2, rdk, ord', nrow, g1, N', ln, hu', lt'⟩
          rw [List.getElem?_map] at hx
          obtain ⟨tg, hj, rfl⟩ := Option.map_eq_some_iff.mp hx
          have enx := nx_row hrow hj
          rw [← ln] at enx
          refine ⟨_, rfl, _, rfl, ?_⟩
          cases tg with
          | none =>
            exact ⟨⟨_, rfl⟩, sm2, rdk, ord', nrow ++ [none], g1, N'.none_ (fun p t e1 e2 => by
              rw [hu'] at e1
              cases e1
              rw [enx] at e2
              cases e2), by rw [List.length_append, ln]; rfl, hu', lt'⟩
          | some v =>
            have hvn := M.tgt row hmr v (List.mem_of_getElem? hj)
            refine ⟨_, rfl, _, rfl, o, _, rfl, .inl (SqL.of g1), rfl, flat_nat, _, rfl, ?_⟩
            have enot : inV (oV (some v)) (ord'.map natV) = decide (v ∈ ord') := notIn_nat
            rw [enot]
            by_cases hin : v ∈ ord'
            · rw [decide_eq_true hin]
              obtain ⟨j', hj'⟩ := List.mem_iff_getElem?.mp hin
              exact ⟨⟨_, rfl⟩, sm2, rdk, ord', nrow ++ [some j'], g1, N'.some_ hu' enx rfl hj', by rw [List.length_append, ln]; rfl, hu', lt'⟩
            · rw [decide_eq_false hin]
              have N2 := N'.fresh hu' enx rfl hin
              have lt2 : ∀ s ∈ ord' ++ [v], s < rs.length := fun s hs => by
                rcases List.mem_append.mp hs with z | z
                · exact lt' s z
                · rw [List.mem_singleton.mp z]
                  exact hvn
              have hol2 := nodup_len N2.nd lt2
              rw [List.length_append, List.length_singleton] at hol2
              refine ⟨_, rfl, .inl ⟨rfl, _, SqL.of g1⟩, _, rfl, o, _, _, rfl, rfl, g1, small1000 (by rw [List.length_map]; omega), ?_⟩
              refine ⟨⟨_, rfl⟩, fun b z e => ?_, fun {a} {xs} h => ?_, ord' ++ [v], nrow ++ [some ord'.length], by rw [upd_same, List.map_append]; rfl, N2, by rw [List.length_append, ln]; rfl, ?_, lt2⟩
              · rw [upd_ne (ne_of_none e ho)]
                exact sm2 b z e
              · have h' := rdk h
                have na : a ≠ o := fun z => by
                  rw [z] at h'
                  rcases h' with h' | ⟨_, h'⟩ <;> (rw [g1] at h'; cases h')
                rcases h' with h' | ⟨ob, h'⟩
                · exact .inl (by rw [upd_ne na]; exact h')
                · exact .inr ⟨ob, by rw [upd_ne na]; exact h'⟩
              · rw [List.getElem?_append_left (List.getElem?_eq_some_iff.mp hu').1]
                exact hu'
        · rintro σ H2 ⟨⟨y5, rfl⟩, sm2, rdk, ord', nrow, g1, N', ln, hu', lt'⟩
          rw [List.length_map, hrl] at ln
          have N2 := N'.whole ln (List.getElem?_eq_some_iff.mp hu').1
          have hol2 := nodup_len N2.nd lt'
          have lo := (List.getElem?_eq_some_iff.mp hu').1
          refine ⟨_, rfl, _, _, rfl, rfl, ⟨ord', done ++ [nrow], y5, ?_, sm2, g1, N2, lt'⟩, ?_⟩
          · rw [List.length_append, List.length_singleton]
            rfl
          · show 401 - ((done.length : Int) + 1).toNat < 401 - (done.length : Int).toNat
            omega
      · have h9 : ¬ ((done.length : Int) < ((ord.map natV).length : Int)) := fun z => hlt (decide_eq_true z)
        rw [List.length_map] at h9
        have := N.lt
        exact ⟨_, rfl, k H1 o ord done sm ho h1 N (by omega) lt⟩
    · rintro σ H1 Q1 Q2 hQ ⟨x, e1, y, e2, p, ys, e3, e4, i, j, e5, e6, b, e7, q⟩
      exact ⟨x, e1, y, e2, p, ys, e3, e4, i, j, e5, e6, b, e7, hQ _ _ q⟩
end
/-! ### dicts that tell what is in them -/
section
variable {α κ : Type} [DecidableEq α] [DecidableEq κ] {f : α → κ}
def opG (f : α → κ) (ks : List α) : List (κ × V) := ks.map fun s => (f s, V.bl true)
theorem og_no {ks : List α} {k : α} (inj : ∀ a b, f a = f b → a = b) (h : k ∉ ks) : ∀ x ∈ opG f ks, ¬ (decide (x.1 = f k) = true) := fun x hx e => by
  obtain ⟨p, hp, rfl⟩ := List.mem_map.mp hx
  exact h (inj _ _ (of_decide_eq_true e) ▸ hp)
theorem og_val (inj : ∀ a b, f a = f b → a = b) : ∀ (ks : List α) (k : α), valV (opG f ks) (f k) = if k ∈ ks then some (.bl true) else none
  | [], k => rfl
  | p :: ks, k => by
    unfold valV opG
    rw [List.map_cons]
    by_cases e : p = k
    · subst e
      rw [List.find?_cons_of_pos (by exact decide_eq_true rfl), if_pos List.mem_cons_self]
      rfl
    · rw [List.find?_cons_of_neg (by rw [decide_eq_true_eq]; exact fun z => e (inj _ _ z))]
      have ih := og_val inj ks k
      unfold valV opG at ih
      rw [ih]
      by_cases m : k ∈ ks
      · rw [if_pos m, if_pos (List.mem_cons_of_mem _ m)]
      · rw [if_neg m, if_neg (fun z => by
          rcases List.mem_cons.mp z with z | z
          · exact e z.symm
          · exact m z)]
theorem og_some (inj : ∀ a b, f a = f b → a = b) (ks : List α) (k : α) : (valV (opG f ks) (f k)).isSome = decide (k ∈ ks) := by
  rw [og_val inj]
  by_cases m : k ∈ ks
  · rw [if_pos m, decide_eq_true m]
    rfl
  · rw [if_neg m, decide_eq_false m]
    rfl
theorem og_put {ks : List α} {k : α} (inj : ∀ a b, f a = f b → a = b) (h : k ∉ ks) : putK (opG f ks) (f k) (.bl true) = opG f (ks ++ [k]) := by
  unfold putK
  rw [if_neg (fun z => by
    obtain ⟨x, hx, e⟩ := List.any_eq_true.mp z
    exact og_no inj h x hx e)]
  unfold opG
  rw [List.map_append]
  rfl
theorem og_len {ks : List α} : (opG f ks).length = ks.length := List.length_map _
end
abbrev opK (ks : List Nat) : List (Key × V) := opG (fun s : Nat => (.inl (s : Int) : Key)) ks
abbrev hpK (ps : List (Nat × Nat)) : List (List Key × V) := opG (fun p : Nat × Nat => ([.inl (p.1 : Int), .inl (p.2 : Int)] : List Key)) ps
theorem opI : ∀ a b : Nat, (.inl (a : Int) : Key) = .inl (b : Int) → a = b := fun a b e => by
  have := Sum.inl.inj e
  omega
theorem hpI : ∀ a b : Nat × Nat, ([.inl (a.1 : Int), .inl (a.2 : Int)] : List Key) = [.inl (b.1 : Int), .inl (b.2 : Int)] → a = b := fun a b e => by
  have h1 := List.cons.inj e
  have h2 := List.cons.inj h1.2
  exact Prod.ext (opI _ _ h1.1) (opI _ _ h2.1)
theorem opK_merge : ∀ (more ks : List Nat), (ks ++ more).Nodup → mergeK (opK ks) (opK more) = opK (ks ++ more)
  | [], ks, _ => by rw [List.append_nil]; rfl
  | k :: more, ks, nd => by
    have hk : k ∉ ks := fun z => (List.nodup_append.mp nd).2.2 k z k List.mem_cons_self rfl
    have ih := opK_merge more (ks ++ [k]) (by rw [List.append_assoc]; exact nd)
    rw [List.append_assoc] at ih
    show mergeK (putK (opK ks) (.inl (k : Int)) (.bl true)) (opK more) = opK (ks ++ ([k] ++ more))
    rw [← ih]
    congr 1
    exact og_put opI hk
theorem paired_mem {α β : Type} {F G : α → β → Prop} : ∀ {l₁ : List α} {l₂ : List β}, Paired F l₁ l₂ → (∀ a ∈ l₁, ∀ b, F a b → G a b) → Paired G l₁ l₂
  | _, _, .nil, _ => .nil
  | _, _, .cons r t, f => .cons (f _ List.mem_cons_self _ r) (paired_mem t fun a ha => f a (List.mem_cons_of_mem _ ha))
def inO (ks : List Nat) : Option Nat → Bool
  | none => false
  | some t => decide (t ∈ ks)

/-! ### what is alive, by the law -/
section
variable {P : Program} {w : World} {K : PySem.W.Frag} {mg : Str → Option Value} {base : Heap}
theorem scOpen : FnScope ["_law_rows", "_law_ends", "_law_found", "_law_many", "_law_state", "_law_back", "_law_item"] ["_law_rows", "_law_ends"] (defScope sOpen) := ⟨rfl, rfl, rfl, by decide +kernel, rfl, by decide +kernel, by decide +kernel⟩
def spOpen : Sp := fun vs H Q _ => ∃ (L : Nat) (rs : Rows) (es : List Bool) (m pr pe : Addr) (rvs : List V), vs = [.ref pr, .ref pe] ∧ MOk L rs es ∧ MB H L rs es m pr pe rvs ∧
  ∀ (H' : Hp) (d : Addr) (ks : List Nat), Same H H' → H d = none → H' d = some (.dK (opK ks)) → (∀ s, s ∈ ks ↔ (s < rs.length ∧ Live rs es s)) → Q (.ref d) H'
theorem ok_open {f : Addr} {fd : FuncData} (F : Fun K "_law_open" "_law_open" sOpen f fd) (T : Mg mg) : FnOk P w K mg base CX0 1 f fd ["_law_rows", "_law_ends"] spOpen := by
  refine F.ok scOpen (fun vs H Q E h => ?_) (fun cdv A outer s H vs Q E hr h => ?_)
  · obtain ⟨L, rs, es, m, pr, pe, rvs, rfl, _⟩ := h
    rfl
  · obtain ⟨L, rs, es, m, pr, pe, rvs, rfl, M, MM, k⟩ := h
    have hu0 := hr.units0
    have hu1 := hu_of hr
    have l4 := M.l400
    have l1 := M.l1
    refine ⟨_, (pss_cons (ps_asg (pe_tup (pa_cons (pe_callTy (call_dictP rfl) (by rfl) T.dict (by decide +kernel) (pa_cons (pe_lc (own := [("_law_state", 4)]) (g := gName 4) rfl scOpen.nd (pi_range1 (by rfl) T.range (pa_cons (pe_callB (r := rLen K) call_len_seq (by rfl) T.len PySem.boot_len (pa_cons (pv 0) pa_nil)) pa_nil)) (blkOk_by (N := ["_law_rows", "_law_ends", "_law_found", "_law_many", "_law_state", "_law_back", "_law_item"]) (sc := defScope sOpen) (by decide +kernel)) (fun _ _ _ _ _ => pg_name (i := 4) scOpen.nd rfl (Or.inl rfl)) (fun _ _ _ _ _ => pts_one (pt_val (pe_ix (r := rIxT K) ix_tup (pv 1) (pv 4) (fun _ _ => rfl)))) (fun _ _ _ _ _ => (pe_tup (pa_cons (pv 4) (pa_cons pe_bl pa_nil))))) pa_nil)) (pa_cons (pe_un un_neg pe_int) pa_nil))) (pg_tup rfl (pgs_cons (pg_name (i := 2) scOpen.nd rfl (.inr rfl)) (pgs_cons (pg_name (i := 3) scOpen.nd rfl (.inl rfl)) pgs_nil))))
      (pss_cons (ps_while PassesOwn.never (pt_cmpR op_ne (pe_callB call_lenD (by rfl) T.len PySem.boot_len (pa_cons (pv 2) pa_nil)) (pv 3) (nomark _)) (pss_cons (ps_set (i := 3) scOpen.nd rfl (.inl rfl) (pe_callB call_lenD (by rfl) T.len PySem.boot_len (pa_cons (pv 2) pa_nil)))
      (pss_one (ps_for PassesOwn.never rfl (pi_range1 (by rfl) T.range (pa_cons (pe_callB (r := rLen K) call_len_seq (by rfl) T.len PySem.boot_len (pa_cons (pv 0) pa_nil)) pa_nil)) (pg_name (i := 5) scOpen.nd rfl (.inl rfl)) (pss_cons (ps_set (i := 4) scOpen.nd rfl (.inl rfl) (pe_op op_sub (pe_op op_sub (pe_callB (r := rLen K) call_len_seq (by rfl) T.len PySem.boot_len (pa_cons (pv 0) pa_nil)) pe_int) (pv 5)))
      (pss_one (ps_if (PW.pt (pw_and (pt_cmp (pc_dnotin hu1 (pv 4) (pv 2))) (pw_and1 (pt_cmpR (op_neNilL hu0) (pe_lc (own := [("_law_item", 6)]) (g := gName 6) rfl scOpen.nd (pi_tup (pe_ix (r := rIxT K) ix_tup (pv 0) (pv 4) (fun _ _ => rfl))) (blkOk_by (N := ["_law_rows", "_law_ends", "_law_found", "_law_many", "_law_state", "_law_back", "_law_item"]) (sc := defScope sOpen) (by decide +kernel)) (fun _ _ _ _ _ => pg_name (i := 6) scOpen.nd rfl (Or.inl rfl)) (fun _ _ _ _ _ => pts_one (pt_cmp (pc_dinN hu1 (pv 6) (pv 2)))) (fun _ _ _ _ _ => (pv 6))) (pe_lst pa_nil) (nomark _))))) (pss_one (ps_asg pe_bl (pg_sub (pv 2) (pv 4) (set_dict hu1)))) pss_nil)))))))
      (pss_one (ps_ret (pv 2))))), ?_⟩
    refine ⟨_, rfl, pr, rvs, rfl, .inr (.inl MM.hr), (rvs.length : Int), rfl, ?_, ?_, fun D hD => ?_⟩
    · rw [MM.hl]
      omega
    · rw [MM.hl]
      omega
    refine lc_range (lo := 0) (n := (rvs.length : Int).toNat) (fun j H' => Same H H' ∧ ∃ ps : List Addr, H' D = some (.lst (ps.map V.ref)) ∧ Paired (fun p kv => H' p = some (.tup [kV kv.1, kv.2])) ps (opK ((List.range j).filter fun s => es.getD s false)) ∧ (∀ p ∈ ps, p ≠ D) ∧ ps.length ≤ j) ?_ ?_ ?_
    · exact ⟨same_new hD, [], upd_same, .nil, (fun _ z => absurd z List.not_mem_nil), Nat.le_refl _⟩
    · rintro j H1 hj ⟨sm, ps, hD1, pp, nD, lp⟩
      rw [Int.toNat_natCast, MM.hl] at hj
      have e0 : (0 : Int) + (j : Int) = (j : Int) := Int.zero_add _
      have hej : es[j]? = some (es.getD j false) := by
        have : j < es.length := by rw [M.es]; exact hj
        rw [getD_at this, List.getElem?_eq_getElem this]
      refine ⟨rfl, _, rfl, _, rfl, pe, _, ((0 : Int) + j), .bl (es.getD j false), rfl, rfl, .inl (MM.same sm).he, ?_, ?_⟩
      · rw [e0]
        exact atI_nat (by rw [List.getElem?_map, hej]; rfl)
      have rs_ : (List.range (j + 1)).filter (fun s => es.getD s false) = (List.range j).filter (fun s => es.getD s false) ++ (if es.getD j false then [j] else []) := by
        rw [List.range_succ, List.filter_append]
        congr 1
        cases q : es.getD j false with
        | true => rw [List.filter_cons, if_pos q]; rfl
        | false => rw [List.filter_cons, if_neg (by rw [q]; exact Bool.false_ne_true)]; rfl
      refine ⟨_, rfl, ?_⟩
      cases q : es.getD j false with
      | true =>
        rw [q] at rs_
        refine ⟨_, rfl, (by show 2 ≤ sizeLine; decide), fun T2 hT => ?_⟩
        have hTD : T2 ≠ D := fun z => by rw [z, hD1] at hT; cases hT
        refine ⟨_, by rw [upd_ne hTD.symm]; exact hD1, small1000 (by rw [List.length_map]; omega), fun b o e => ?_, ps ++ [T2], by rw [upd_same, List.map_append]; rfl, ?_, fun p hp => ?_, by rw [List.length_append, List.length_singleton]; omega⟩
        · rw [upd_ne (ne_of_none e hD)]
          have h1 := sm _ _ e
          rw [upd_ne (ne_of_none h1 hT)]
          exact h1
        · rw [rs_, if_pos rfl]
          show Paired _ (ps ++ [T2]) (List.map _ (_ ++ _))
          rw [List.map_append]
          refine Paired.snoc ?_ ?_
          · refine paired_mem pp fun p hp kv e => ?_
            rw [upd_ne (nD p hp), upd_ne (ne_of_none e hT)]
            exact e
          · rw [upd_ne hTD, upd_same]
            show some (HO.tup [V.int (0 + (j : Int)), V.bl true]) = some (HO.tup [V.int (j : Int), V.bl true])
            rw [e0]
        · rcases List.mem_append.mp hp with z | z
          · exact nD p z
          · rw [List.mem_singleton.mp z]
            exact hTD
      | false =>
        rw [q] at rs_
        refine ⟨sm, ps, hD1, ?_, nD, by omega⟩
        rw [rs_, if_neg Bool.false_ne_true, List.append_nil]
        exact pp
    · rintro H1 ⟨sm, ps, hD1, pp, nD, lp⟩
      rw [Int.toNat_natCast, MM.hl] at pp
      refine ⟨D, ps, _, rfl, SqL.of hD1, paired_mem pp (fun p _ kv e => SqT.of e), fun d hd => ?_⟩
      have em := opK_merge ((List.range rs.length).filter fun s => es.getD s false) [] (List.Pairwise.filter _ List.nodup_range)
      have em : mergeK [] (opK ((List.range rs.length).filter fun s => es.getD s false)) = opK ((List.range rs.length).filter fun s => es.getD s false) := em
      rw [em]
      have s1 : Same H (upd H1 d (.dK (opK ((List.range rs.length).filter fun s => es.getD s false)))) := sm.trans (same_new hd)
      have hd1 : (upd H1 d (.dK (opK ((List.range rs.length).filter fun s => es.getD s false)))) d = some (.dK (opK ((List.range rs.length).filter fun s => es.getD s false))) := upd_same
      have d0 : H d = none := sm.free hd
      have nd0 : ((List.range rs.length).filter fun s => es.getD s false).Nodup := List.Pairwise.filter _ List.nodup_range
      have in0 : ∀ s, s ∈ ((List.range rs.length).filter fun s => es.getD s false) ↔ (s < rs.length ∧ es.getD s false = true) := fun s => by
        rw [List.mem_filter, List.mem_range]
      clear em pp hD1 hd
      generalize (List.range rs.length).filter (fun s => es.getD s false) = ks0 at *
      generalize upd H1 d (.dK (opK ks0)) = H2 at *
      refine ⟨_, rfl, by show 2 ≤ sizeLine; decide, fun T2 hT => ?_⟩
      refine ⟨T2, _, rfl, SqT.of upd_same, rfl, _, _, rfl, _, _, rfl, rfl, ?_⟩
      have s3 : Same H (upd H2 T2 (.tup [.ref d, .int (-1)])) := s1.trans (same_new hT)
      have hd3 : (upd H2 T2 (.tup [.ref d, .int (-1)])) d = some (.dK (opK ks0)) := same_new hT _ _ hd1
      clear s1 hd1 hT
      generalize upd H2 T2 (.tup [.ref d, .int (-1)]) = H3 at *
      refine while_by (fun σ H' => ∃ (ks : List Nat) (many : Int) (y4 y5 y6 : Option V), σ = [some (.ref pr), some (.ref pe), some (.ref d), some (.int many), y4, y5, y6] ∧ Same H H' ∧ H' d = some (.dK (opK ks)) ∧ ks.Nodup ∧ (∀ s ∈ ks, s < rs.length ∧ Live rs es s) ∧ (∀ s, s < rs.length → es.getD s false = true → s ∈ ks) ∧ -1 ≤ many ∧ many ≤ ks.length ∧ (many = ks.length → ∀ s c t, s < rs.length → nx rs s c = some t → t ∈ ks → s ∈ ks))
        (fun (σ : List (Option V)) (_ : Hp) => match σ[3]? with
          | some (some (V.int i)) => (401 - i).toNat
          | _ => 0) ⟨ks0, -1, _, _, _, rfl, s3, hd3, nd0, fun s hs => ?_, fun s h1 h2 => (in0 s).mpr ⟨h1, h2⟩, Int.le_refl _, by omega, fun z => by omega⟩ ?_ ?_
      · have := (in0 s).mp hs
        exact ⟨this.1, live_end this.2⟩
      · rintro σ H4 ⟨ks, many, y4, y5, y6, rfl, s4, hd4, nd, lv, en, b1, b2, cl⟩
        have lk := nodup_len nd (fun s hs => (lv s hs).1)
        refine ⟨_, rfl, d, _, rfl, hd4, _, rfl, rfl, _, rfl, ite2 (fun h => ?_) (fun h => ?_)⟩
        · refine ⟨_, rfl, d, _, rfl, hd4, ?_⟩
          refine ⟨_, rfl, pr, rvs, rfl, .inr (.inl (MM.same s4).hr), (rvs.length : Int), rfl, by rw [MM.hl]; omega, by rw [MM.hl]; omega, ?_⟩
          have hne : ¬ many = (ks.length : Int) := fun z => by
            exact of_decide_eq_false (not_cases h) (by rw [z, og_len])
          refine for_range (lo := 0) (n := (rvs.length : Int).toNat) (fun i σ H' => ∃ (ks' : List Nat) (y4 y5 y6 : Option V), σ = [some (.ref pr), some (.ref pe), some (.ref d), some (.int (ks.length : Int)), y4, y5, y6] ∧ Same H H' ∧ H' d = some (.dK (opK ks')) ∧ ks'.Nodup ∧ (∀ s ∈ ks', s < rs.length ∧ Live rs es s) ∧ (∀ s, s < rs.length → es.getD s false = true → s ∈ ks') ∧ ks.length ≤ ks'.length ∧ (ks'.length = ks.length → ∀ s c t, rs.length ≤ s + i → s < rs.length → nx rs s c = some t → t ∈ ks' → s ∈ ks'))
            ⟨ks, _, _, _, by rw [og_len]; rfl, s4, hd4, nd, lv, en, Nat.le_refl _, fun _ s c t h1 h2 => by omega⟩ ?_ ?_
          · rintro i σ H5 hi ⟨ks', y4', y5', y6', rfl, s5, hd5, nd', lv', en', b1', cl'⟩
            rw [Int.toNat_natCast, MM.hl] at hi
            have MM5 := MM.same s5
            have ez : (rvs.length : Int) - 1 - (0 + (i : Int)) = ((rs.length - 1 - i : Nat) : Int) := by
              rw [MM.hl]
              omega
            refine ⟨_, rfl, pr, rvs, rfl, .inr (.inl MM5.hr), _, _, rfl, rfl, _, rfl, _, _, rfl, rfl, ?_⟩
            dsimp only
            rw [ez]
            obtain ⟨s, hs⟩ : ∃ s, s = rs.length - 1 - i := ⟨_, rfl⟩
            rw [← hs]
            have hsn : s < rs.length := by omega
            refine ⟨_, rfl, _, rfl, d, _, rfl, DGet.k (k := .inl (s : Int)) hd5, _, rfl, ?_⟩
            rw [og_some opI]
            by_cases hin : s ∈ ks'
            · rw [decide_eq_true hin]
              refine ⟨ks', _, _, _, rfl, s5, hd5, nd', lv', en', b1', fun e s' c t h1 h2 h3 h4 => ?_⟩
              by_cases z : s' = s
              · rw [z]
                exact hin
              · exact cl' e s' c t (by omega) h2 h3 h4
            · rw [decide_eq_false hin]
              obtain ⟨row, hrow⟩ : ∃ row, rs[s]? = some row := ⟨_, List.getElem?_eq_getElem hsn⟩
              have hmr := List.mem_of_getElem? hrow
              have hrl := M.row row hmr
              obtain ⟨q, hq1, hq2⟩ := MM5.row s row hrow
              refine ⟨_, rfl, _, rfl, pr, rvs, (s : Int), _, rfl, rfl, .inl MM5.hr, atI_nat hq1, q, rfl, ⟨_, .inl hq2⟩, fun D hD => ?_⟩
              refine lc_tup (K := K) (a := q) (xs := row.map oV) (KInv (fun o : Option Nat => inO ks' o) oV row H5 D) (kstart hD) (fun i H' _ p => .inl (same_rd p.1 hq2)) ?_ ?_
              · rintro j x H6 hx p1
                rw [List.getElem?_map] at hx
                obtain ⟨tg, hj, rfl⟩ := Option.map_eq_some_iff.mp hx
                have hd6 := p1.1 _ _ hd5
                have L3 := M.L3
                refine ⟨rfl, _, rfl, _, rfl, ?_⟩
                cases tg with
                | none => exact .inr ⟨d, _, rfl, rfl, .inl hd6, _, rfl, kno (t := fun o : Option Nat => inO ks' o) hj rfl p1 (Same.refl _)⟩
                | some t =>
                  refine .inl ⟨d, _, rfl, DGet.k (k := .inl (t : Int)) hd6, _, rfl, ?_⟩
                  rw [og_some opI]
                  by_cases ht : t ∈ ks'
                  · rw [decide_eq_true ht]
                    exact ⟨_, rfl, kyes (t := fun o : Option Nat => inO ks' o) (small1000 (by omega)) hD hj (decide_eq_true ht) p1 (Same.refl _)⟩
                  · rw [decide_eq_false ht]
                    exact kno (t := fun o : Option Nat => inO ks' o) hj (decide_eq_false ht) p1 (Same.refl _)
              · rintro H6 p1
                obtain ⟨s6, hl6⟩ := kend (List.length_map _) p1
                refine ⟨by show 0 ≤ sizeLine; decide, fun e0 he0 => ?_⟩
                have s7 := s6.trans (same_new (o := .lst []) he0)
                have hl7 := same_new (o := .lst []) he0 _ _ hl6
                have hd7 := s7 _ _ hd5
                refine ⟨D, e0, _, rfl, rfl, SqL.of hl7, SqL.of upd_same, _, rfl, ?_⟩
                have s57 := s5.trans s7
                have lk' := nodup_len nd' (fun s hs => (lv' s hs).1)
                clear hl7 hl6 p1
                generalize upd H6 e0 (.lst []) = H7 at *
                by_cases he : row.filter (fun o => inO ks' o) = []
                · rw [he]
                  refine ⟨ks', _, _, _, rfl, s57, hd7, nd', lv', en', b1', fun e s' c t h1 h2 h3 h4 => ?_⟩
                  by_cases z : s' = s
                  · subst z
                    exfalso
                    have hm : some t ∈ row := by
                      unfold nx at h3
                      rw [List.getD_eq_getElem?_getD, List.getD_eq_getElem?_getD, hrow] at h3
                      have h3 : (row[c]?).getD none = some t := h3
                      cases q : row[c]? with
                      | none => rw [q] at h3; cases h3
                      | some x =>
                        rw [q] at h3
                        have h3 : x = some t := h3
                        rw [h3] at q
                        exact List.mem_of_getElem? q
                    have : some t ∈ row.filter (fun o => inO ks' o) := List.mem_filter.mpr ⟨hm, decide_eq_true h4⟩
                    rw [he] at this
                    exact List.not_mem_nil this
                  · exact cl' e s' c t (by omega) h2 h3 h4
                · have hne : (!decide ((row.filter (fun o => inO ks' o)).map oV = [])) = true := by
                    rw [decide_eq_false (fun z => he (List.map_eq_nil_iff.mp z))]
                    rfl
                  rw [hne]
                  have dp := DPut.k (k := .inl (s : Int)) (v := .bl true) hd7 (small1000 (by rw [og_len]; omega))
                  rw [og_put opI hin] at dp
                  refine ⟨_, rfl, _, rfl, d, _, rfl, dp, ks' ++ [s], _, _, _, rfl, fun b o e => ?_, upd_same, ?_, fun x hx => ?_, fun x h1 h2 => List.mem_append.mpr (.inl (en' x h1 h2)), by rw [List.length_append]; omega, fun e => ?_⟩
                  · rw [upd_ne (ne_of_none e d0)]
                    exact s57 _ _ e
                  · rw [List.nodup_append]
                    exact ⟨nd', List.nodup_cons.mpr ⟨List.not_mem_nil, List.nodup_nil⟩, fun x hx y hy z => hin (by rw [← List.mem_singleton.mp hy, ← z]; exact hx)⟩
                  · rcases List.mem_append.mp hx with z | z
                    · exact lv' x z
                    · rw [List.mem_singleton.mp z]
                      obtain ⟨o, ho⟩ := List.exists_mem_of_ne_nil _ he
                      obtain ⟨h1, h2⟩ := List.mem_filter.mp ho
                      cases o with
                      | none => cases h2
                      | some t =>
                        obtain ⟨c, hc⟩ := List.mem_iff_getElem?.mp h1
                        exact ⟨hsn, live_on (nx_row hrow hc) (lv' t (of_decide_eq_true h2)).2⟩
                  · rw [List.length_append, List.length_singleton] at e
                    omega
          · rintro σ H5 ⟨ks', y4', y5', y6', rfl, s5, hd5, nd', lv', en', b1', cl'⟩
            rw [Int.toNat_natCast, MM.hl] at cl'
            have lk' := nodup_len nd' (fun s hs => (lv' s hs).1)
            refine ⟨⟨ks', _, _, _, _, rfl, s5, hd5, nd', lv', en', by omega, by omega, fun e s c t h1 => cl' (by omega) s c t (by omega) h1⟩, ?_⟩
            show (401 - (ks.length : Int)).toNat < (401 - many).toNat
            omega
        · have e := of_decide_eq_true (not_cases' h)
          rw [og_len] at e
          have e : many = (ks.length : Int) := (V.int.inj e).symm
          refine ⟨_, rfl, k H4 d ks s4 d0 hd4 fun s => ⟨lv s, fun q => ?_⟩⟩
          exact (open_done (F := fun s => s ∈ ks) M.tgt M.row (fun s hs => (lv s hs).2) en (cl e) s q.1).mpr q.2
      · rintro σ H1 Q1 Q2 hQ ⟨x, e1, a, kvs, e2, e3, y, e4, e5, b, e6, q⟩
        exact ⟨x, e1, a, kvs, e2, e3, y, e4, e5, b, e6, hQ _ _ q⟩
end
/-! ### pairs told apart, by the law -/
theorem inO_lvs {L : Nat} {rs : Rows} {es : List Bool} {ks : List Nat} {row : List (Option Nat)} {o : Option Nat} (M : MOk L rs es) (lv : ∀ s, s ∈ ks ↔ (s < rs.length ∧ Live rs es s)) (hr : row ∈ rs) (ho : o ∈ row) : inO ks o = true ↔ Lvs rs es o := by
  cases o with
  | none => exact ⟨(fun z => by cases z), fun z => z.elim⟩
  | some t =>
    have ht := M.tgt row hr t ho
    show decide (t ∈ ks) = true ↔ Live rs es t
    rw [decide_eq_true_eq, lv]
    exact ⟨fun z => z.2, fun z => ⟨ht, z⟩⟩
theorem nx_off {L : Nat} {rs : Rows} {es : List Bool} (M : MOk L rs es) {s c : Nat} (h : L ≤ c) : nx rs s c = none := by
  cases e : nx rs s c with
  | none => rfl
  | some t =>
    have := (nx_lt M.row e).2.1
    omega
theorem tdinN {i j : Nat} {σ : L2.St} {H : Hp} {Q : VK} {al : Addr} {ks : List Nat} {o : Option Nat} (hi : tVar i σ H fun v H' => v = oV o ∧ H' = H) (hj : tVar j σ H fun v H' => v = .ref al ∧ H' = H) (h : H al = some (.dK (opK ks))) (q : Q (.bl (inO ks o)) H) : tDInN (tVar i) (tVar j) σ H Q := by
  obtain ⟨v, e1, rfl, _⟩ := hi
  obtain ⟨x, e2, rfl, _⟩ := hj
  refine ⟨_, e1, _, e2, ?_⟩
  cases o with
  | none => exact .inr ⟨al, _, rfl, rfl, .inl h, q⟩
  | some t =>
    refine .inl ⟨al, _, rfl, DGet.k (k := .inl (t : Int)) h, ?_⟩
    rw [og_some opI]
    exact q
theorem og_yes {α κ : Type} [DecidableEq α] [DecidableEq κ] {f : α → κ} (inj : ∀ a b, f a = f b → a = b) {ks : List α} {k : α} (h : k ∈ ks) : (valV (opG f ks) (f k)).isSome = true := by
  rw [og_val inj, if_pos h]
  rfl
theorem og_nob {α κ : Type} [DecidableEq α] [DecidableEq κ] {f : α → κ} (inj : ∀ a b, f a = f b → a = b) {ks : List α} {k : α} (h : k ∉ ks) : (valV (opG f ks) (f k)).isSome = false := by
  rw [og_val inj, if_neg h]
  rfl

theorem walk_zipT {K : PySem.W.Frag} {a b : Addr} {xs ys : List V} {n : Nat} (e1 : xs.length = n) (e2 : ys.length = n) : Walk (RZ.ItzT K a b) n (fun H => SqT K H a xs ∧ SqT K H b ys) (YPair (fun i => xs[i]?) (fun i => ys[i]?)) := by
  refine ⟨fun i _ hi q => ⟨xs, ys, xs[i]'(by omega), ys[i]'(by omega), q.1, q.2, by simp, by simp⟩, fun _ q => ⟨xs, ys, q.1, q.2, by omega⟩, fun i H v H' _ q y => ?_⟩
  obtain ⟨T, x, z, h1, h2, h3, h4, h5⟩ := y
  exact ⟨T, x, z, h1, h2, h3, h4 xs q.1, h5 ys q.2⟩

section
variable {P : Program} {w : World} {K : PySem.W.Frag} {mg : Str → Option Value} {base : Heap}
theorem scApart : FnScope ["_law_rows", "_law_ends", "_law_alive", "_law_held", "_law_pair", "_law_one_here", "_law_other", "_law_first", "_law_second"] ["_law_rows", "_law_ends", "_law_alive", "_law_held", "_law_pair"] (defScope sApart) := ⟨rfl, rfl, rfl, by decide +kernel, rfl, by decide +kernel, by decide +kernel⟩
def spApart : Sp := fun vs H Q _ => ∃ (L : Nat) (rs : Rows) (es : List Bool) (m pr pe : Addr) (rvs : List V) (al hd pa : Addr) (ks : List Nat) (ps : List (Nat × Nat)) (a b : Nat), vs = [.ref pr, .ref pe, .ref al, .ref hd, .ref pa] ∧ MOk L rs es ∧ MB H L rs es m pr pe rvs ∧
  H al = some (.dK (opK ks)) ∧ H hd = some (.dT (hpK ps)) ∧ H pa = some (.tup [natV a, natV b]) ∧ a < rs.length ∧ b < rs.length ∧ (∀ s, s ∈ ks ↔ (s < rs.length ∧ Live rs es s)) ∧
  ∀ (H' : Hp) (t : Bool), Same H H' → (t = true ↔ Apart rs es (fun p q => (p, q) ∈ ps) a b) → Q (.bl t) H'
theorem ok_apart {f : Addr} {fd : FuncData} (F : Fun K "_law_are_apart" "_law_are_apart" sApart f fd) (T : Mg mg) : FnOk P w K mg base CX0 1 f fd ["_law_rows", "_law_ends", "_law_alive", "_law_held", "_law_pair"] spApart := by
  refine F.ok scApart (fun vs H Q E h => ?_) (fun cdv A outer s H vs Q E hr h => ?_)
  · obtain ⟨L, rs, es, m, pr, pe, rvs, al, hd, pa, ks, ps, a, b, rfl, _⟩ := h
    rfl
  · obtain ⟨L, rs, es, m, pr, pe, rvs, al, hd, pa, ks, ps, a, b, rfl, M, MM, hal, hhd, hpa, la, lb, lv, k⟩ := h
    have hu0 := hr.units0
    have hu1 := hu_of hr
    refine ⟨_, (pss_cons (ps_asg (pv 4) (pg_tup rfl (pgs_cons (pg_name (i := 5) scApart.nd rfl (.inl rfl)) (pgs_cons (pg_name (i := 6) scApart.nd rfl (.inl rfl)) pgs_nil))))
      (pss_cons (ps_if (pt_cmpR op_ne (pe_ix (r := rIxT K) ix_tup (pv 1) (pv 5) (fun _ _ => rfl)) (pe_ix (r := rIxT K) ix_tup (pv 1) (pv 6) (fun _ _ => rfl)) (nomark _)) (pss_one (ps_ret pe_bl)) pss_nil)
      (pss_cons (ps_for PassesOwn.never rfl (RZ.pi_zipA (by rfl) T.zip (pa_cons (pe_ix (r := rIxT K) ix_tup (pv 0) (pv 5) (fun _ _ => rfl)) (pa_cons (pe_ix (r := rIxT K) ix_tup (pv 0) (pv 6) (fun _ _ => rfl)) pa_nil))) (pg_tup rfl (pgs_cons (pg_name (i := 7) scApart.nd rfl (.inl rfl)) (pgs_cons (pg_name (i := 8) scApart.nd rfl (.inl rfl)) pgs_nil))) (pss_one (ps_if (PW.pt (pw_or (pt_cmpR op_ne (pe_cmp (pc_dinN hu1 (pv 7) (pv 2))) (pe_cmp (pc_dinN hu1 (pv 8) (pv 2))) (nomark _)) (pw_or1 (PW.pt (pw_and (pt_cmp (pc_dinN hu1 (pv 7) (pv 2))) (pw_and1 (pt_cmp (pc_din hu1 (pe_tup (pa_cons (pv 7) (pa_cons (pv 8) pa_nil))) (pv 3))))))))) (pss_one (ps_ret pe_bl)) pss_nil)))
      (pss_one (ps_ret pe_bl))))), ?_⟩
    obtain ⟨ra, hra⟩ : ∃ row, rs[a]? = some row := ⟨_, List.getElem?_eq_getElem la⟩
    obtain ⟨rb, hrb⟩ : ∃ row, rs[b]? = some row := ⟨_, List.getElem?_eq_getElem lb⟩
    have mra := List.mem_of_getElem? hra
    have mrb := List.mem_of_getElem? hrb
    have lra := M.row ra mra
    have lrb := M.row rb mrb
    obtain ⟨qa, qa1, qa2⟩ := MM.row a ra hra
    obtain ⟨qb, qb1, qb2⟩ := MM.row b rb hrb
    have hes : ∀ {x : Nat}, x < rs.length → (es.map V.bl)[x]? = some (.bl (es.getD x false)) := fun {x} lx => by
      have : x < es.length := by rw [M.es]; exact lx
      rw [List.getElem?_map, getD_at this, List.getElem?_eq_getElem this]
      rfl
    refine ⟨_, rfl, pa, _, rfl, SqT.of hpa, rfl, _, _, rfl, _, _, rfl, rfl, ?_⟩
    refine ⟨_, rfl, _, rfl, pe, _, (a : Int), _, rfl, rfl, .inl MM.he, atI_nat (hes la), _, rfl, _, rfl, pe, _, (b : Int), _, rfl, rfl, .inl MM.he, atI_nat (hes lb), rfl, _, rfl, ite2 (fun h => ?_) (fun h => ?_)⟩
    · have h := of_decide_eq_false (not_cases h)
      exact k H true (Same.refl _) ⟨fun _ => ⟨.inl fun z => h (by rw [z])⟩, fun _ => rfl⟩
    · have ee := V.bl.inj (of_decide_eq_true (not_cases' h))
      refine ⟨_, rfl, _, rfl, pr, rvs, (a : Int), _, rfl, rfl, .inl MM.hr, atI_nat qa1, _, rfl, _, rfl, pr, rvs, (b : Int), _, rfl, rfl, .inl MM.hr, atI_nat qb1, qa, qb, _, _, rfl, .inr ⟨.inl qa2, .inl qb2, ?_⟩⟩
      refine for_it (walk_zipT (a := qa) (b := qb) (xs := ra.map oV) (ys := rb.map oV) (n := L) (by rw [List.length_map]; exact lra) (by rw [List.length_map]; exact lrb)) (fun i σ H' => (∃ y7 y8, σ = [some (.ref pr), some (.ref pe), some (.ref al), some (.ref hd), some (.ref pa), some (.int (a : Int)), some (.int (b : Int)), y7, y8]) ∧ Same H H' ∧ ∀ c, c < i → ¬ (¬ (Lvs rs es (nx rs a c) ↔ Lvs rs es (nx rs b c)) ∨ ∃ p q, nx rs a c = some p ∧ nx rs b c = some q ∧ Live rs es p ∧ (p, q) ∈ ps))
        ⟨⟨_, _, rfl⟩, Same.refl _, fun c h => by omega⟩ (fun i σ H' _ p => ⟨.inl (same_rd p.2.1 qa2), .inl (same_rd p.2.1 qb2)⟩) ?_ ?_
      · rintro i x σ H1 H2 hi ⟨⟨y7, y8, rfl⟩, s1, no⟩ ⟨T2, xa, xb, rfl, hT, rfl, hxa, hxb⟩
        have hxa : (ra.map oV)[i]? = some xa := hxa
        have hxb : (rb.map oV)[i]? = some xb := hxb
        rw [List.getElem?_map] at hxa hxb
        obtain ⟨fa, hfa, rfl⟩ := Option.map_eq_some_iff.mp hxa
        obtain ⟨fb, hfb, rfl⟩ := Option.map_eq_some_iff.mp hxb
        have na := nx_row hra hfa
        have nb := nx_row hrb hfb
        have iA := inO_lvs M lv mra (List.mem_of_getElem? hfa)
        have iB := inO_lvs M lv mrb (List.mem_of_getElem? hfb)
        have s2 : Same H (upd H1 T2 (.tup [oV fa, oV fb])) := s1.trans (same_new hT)
        have g2 : (upd H1 T2 (.tup [oV fa, oV fb])) T2 = some (.tup [oV fa, oV fb]) := upd_same
        clear hT
        generalize upd H1 T2 (.tup [oV fa, oV fb]) = H2 at *
        have hal2 := s2 _ _ hal
        have hhd2 := s2 _ _ hhd
        refine ⟨T2, _, rfl, SqT.of g2, rfl, _, _, rfl, _, _, rfl, rfl, ?_⟩
        dsimp only [tIfS, tOr, tTest, tOp, tAnd, tB]
        refine tdinN (o := fa) ⟨_, rfl, rfl, rfl⟩ ⟨_, rfl, rfl, rfl⟩ hal2 ?_
        refine tdinN (o := fb) ⟨_, rfl, rfl, rfl⟩ ⟨_, rfl, rfl, rfl⟩ hal2 ?_
        refine ⟨rfl, _, rfl, ?_⟩
        have more : ¬ (¬ (Lvs rs es (nx rs a i) ↔ Lvs rs es (nx rs b i)) ∨ ∃ p q, nx rs a i = some p ∧ nx rs b i = some q ∧ Live rs es p ∧ (p, q) ∈ ps) → ∀ c, c < i + 1 → ¬ (¬ (Lvs rs es (nx rs a c) ↔ Lvs rs es (nx rs b c)) ∨ ∃ p q, nx rs a c = some p ∧ nx rs b c = some q ∧ Live rs es p ∧ (p, q) ∈ ps) := fun h c hc => by
          by_cases z : c = i
          · rw [z]
            exact h
          · exact no c (by omega)
        have yes : (¬ (Lvs rs es (nx rs a i) ↔ Lvs rs es (nx rs b i)) ∨ ∃ p q, nx rs a i = some p ∧ nx rs b i = some q ∧ Live rs es p ∧ (p, q) ∈ ps) → ∀ H', Same H H' → Q (.bl true) H' := fun h H' s' => k H' true s' ⟨fun _ => ⟨.inr ⟨i, h⟩⟩, fun _ => rfl⟩
        rw [na, nb] at more yes
        cases eA : inO ks fa with
        | false =>
          have nA : ¬ Lvs rs es fa := fun z => by
            rw [iA.mpr z] at eA
            cases eA
          cases eB : inO ks fb with
          | true => exact yes (.inl fun z => nA (z.mpr (iB.mp eB))) H2 s2
          | false =>
            have nB : ¬ Lvs rs es fb := fun z => by
              rw [iB.mpr z] at eB
              cases eB
            rw [if_neg (by decide : ¬ (!decide (V.bl false = V.bl false)) = true)]
            refine tdinN (o := fa) ⟨_, rfl, rfl, rfl⟩ ⟨_, rfl, rfl, rfl⟩ hal2 ?_
            rw [eA]
            refine ⟨_, rfl, ⟨_, _, rfl⟩, s2, more fun z => ?_⟩
            rcases z with z | ⟨p, q, e1, _, e3, _⟩
            · exact z ⟨fun y => absurd y nA, fun y => absurd y nB⟩
            · rw [e1] at nA
              exact nA e3
        | true =>
          have yA := iA.mp eA
          cases eB : inO ks fb with
          | false => exact yes (.inl fun z => by
              rw [iB.mpr (z.mp yA)] at eB
              cases eB) H2 s2
          | true =>
            have yB := iB.mp eB
            rw [if_neg (by decide : ¬ (!decide (V.bl true = V.bl true)) = true)]
            refine tdinN (o := fa) ⟨_, rfl, rfl, rfl⟩ ⟨_, rfl, rfl, rfl⟩ hal2 ?_
            rw [eA]
            cases fa with
            | none => exact yA.elim
            | some p =>
            cases fb with
            | none => exact yB.elim
            | some q =>
            refine ⟨_, rfl, _, rfl, _, rfl, by show 2 ≤ sizeLine; decide, fun T3 hT3 => ?_⟩
            have s3 := s2.trans (same_new (o := .tup [oV (some p), oV (some q)]) hT3)
            have hhd3 := same_new (o := .tup [oV (some p), oV (some q)]) hT3 _ _ hhd2
            refine ⟨_, rfl, hd, _, rfl, DGet.t (k := [.inl (p : Int), .inl (q : Int)]) hhd3 upd_same, _, rfl, ?_⟩
            by_cases hin : (p, q) ∈ ps
            · rw [og_yes (k := (p, q)) hpI hin]
              exact yes (.inr ⟨p, q, rfl, rfl, yA, hin⟩) _ s3
            · rw [og_nob (k := (p, q)) hpI hin]
              refine ⟨⟨_, _, rfl⟩, s3, more fun z => ?_⟩
              rcases z with z | ⟨p', q', e1, e2, _, e4⟩
              · exact z ⟨fun _ => yB, fun _ => yA⟩
              · cases e1
                cases e2
                exact hin e4
      · rintro σ H1 ⟨⟨y7, y8, rfl⟩, s1, no⟩
        refine k H1 false s1 ⟨(fun z => by cases z), fun z => ?_⟩
        rcases z.it with z | ⟨c, z⟩
        · exact absurd ee z
        · rcases Nat.lt_or_ge c L with q | q
          · exact absurd z (no c q)
          · rw [nx_off M q, nx_off M q] at z
            rcases z with z | ⟨_, _, z, _⟩
            · exact absurd Iff.rfl z
            · cases z
end
/-! ### the law's least machine -/
theorem small5 {n : Nat} (h : n ≤ 50000) : n < sizeLine := Nat.lt_of_le_of_lt h (by decide)
theorem pairs_len {n : Nat} {ps : List (Nat × Nat)} (nd : ps.Nodup) (h : ∀ p ∈ ps, p.1 < n ∧ p.2 < n) : ps.length ≤ n * n := by
  have h1 : (ps.map fun p => p.1 * n + p.2).Nodup := by
    refine List.pairwise_map.mpr (nd.imp_of_mem fun {a b} ha hb ne e => ne ?_)
    obtain ⟨a1, a2⟩ := h a ha
    obtain ⟨b1, b2⟩ := h b hb
    have e1 : (a.1 * n + a.2) / n = (b.1 * n + b.2) / n := by rw [e]
    have np : 0 < n := by omega
    rw [Nat.mul_comm, Nat.mul_add_div np, Nat.div_eq_of_lt a2, Nat.mul_comm b.1, Nat.mul_add_div np, Nat.div_eq_of_lt b2, Nat.add_zero, Nat.add_zero] at e1
    have e2 : a.2 = b.2 := by
      rw [e1] at e
      exact Nat.add_left_cancel e
    exact Prod.ext e1 e2
  have := nodup_len (n := n * n) h1 fun x hx => by
    obtain ⟨p, hp, rfl⟩ := List.mem_map.mp hx
    obtain ⟨a1, a2⟩ := h p hp
    have : (p.1 + 1) * n ≤ n * n := Nat.mul_le_mul_right n a1
    rw [Nat.add_mul, Nat.one_mul] at this
    omega
  rwa [List.length_map] at this
theorem met_up {found : List Nat} (nd : found.Nodup) (f : Nat → Bool) : (found.filter f).Pairwise fun a b => found.idxOf a < found.idxOf b := by
  refine List.Pairwise.filter f (List.pairwise_iff_getElem.mpr fun i j hi hj l => ?_)
  rw [idx_at nd (List.getElem?_eq_getElem hi), idx_at nd (List.getElem?_eq_getElem hj)]
  exact l
/-- where an item of a row goes, among the heads -/
def sameL (ks heads : List Nat) (ps : List (Nat × Nat)) : Option Nat → List Nat
  | none => []
  | some t => (List.range heads.length).filter fun j => decide (t ∈ ks) && !decide ((heads.getD j 0, t) ∈ ps)
def entO (ks heads : List Nat) (ps : List (Nat × Nat)) (o : Option Nat) : Option Nat := (sameL ks heads ps o).head?
theorem ent_row {ks heads : List Nat} {ps : List (Nat × Nat)} {row : List (Option Nat)} {c : Nat} : (row.map (entO ks heads ps)).getD c none = entO ks heads ps (row.getD c none) := by
  rw [List.getD_eq_getElem?_getD, List.getD_eq_getElem?_getD, List.getElem?_map]
  cases row[c]? with
  | none => rfl
  | some x => rfl
theorem ent_some {ks heads : List Nat} {ps : List (Nat × Nat)} {o : Option Nat} {j : Nat} (h : entO ks heads ps o = some j) : ∃ t q, o = some t ∧ t ∈ ks ∧ heads[j]? = some q ∧ (q, t) ∉ ps := by
  have hm : j ∈ sameL ks heads ps o := List.mem_of_head? h
  cases o with
  | none => exact absurd hm List.not_mem_nil
  | some t =>
    obtain ⟨h1, h2⟩ := List.mem_filter.mp hm
    have jl := List.mem_range.mp h1
    have h2 := Bool.and_eq_true_iff.mp h2
    refine ⟨t, _, rfl, of_decide_eq_true h2.1, List.getElem?_eq_getElem jl, fun z => ?_⟩
    have h3 := h2.2
    rw [getD_at jl, decide_eq_true z] at h3
    cases h3
theorem ent_none {ks heads : List Nat} {ps : List (Nat × Nat)} {t q j : Nat} (h : entO ks heads ps (some t) = none) (ht : t ∈ ks) (hj : heads[j]? = some q) : (q, t) ∈ ps := by
  have hn : sameL ks heads ps (some t) = [] := List.head?_eq_none_iff.mp h
  have jl := (List.getElem?_eq_some_iff.mp hj).1
  have hq : heads.getD j 0 = q := by
    rw [List.getD_eq_getElem?_getD, hj]
    rfl
  by_cases z : (q, t) ∈ ps
  · exact z
  · have : j ∈ sameL ks heads ps (some t) := List.mem_filter.mpr ⟨List.mem_range.mpr jl, by rw [hq, decide_eq_true ht, decide_eq_false z]; rfl⟩
    rw [hn] at this
    exact absurd this List.not_mem_nil
theorem ni_on {rs : Rws} {L : Nat} {found : List Nat} {done : Rws} (wide : ∀ r ∈ rs, r.length = L) (ni : NI rs L some found found done []) (hd : done.length = found.length) {p c t : Nat} (hp : p ∈ found) (ht : nx rs p c = some t) : t ∈ found := by
  have hip := at_idx hp
  have hil := (List.getElem?_eq_some_iff.mp hip).1
  have hc := (nx_lt wide ht).2.1
  cases e : nx done (found.idxOf p) c with
  | none => exact absurd (ni.no _ c p t (.inl ⟨by omega, hc⟩) (by rw [nx_new]; exact e) hip ht) (fun z => by cases z)
  | some j =>
    obtain ⟨p', t', b, e1, e2, e3, e4⟩ := ni.yes _ c j (by rw [nx_new]; exact e)
    have : p' = p := Option.some.inj (e1.symm.trans hip)
    subst this
    have : t' = t := Option.some.inj (e2.symm.trans ht)
    subst this
    have : t' = b := Option.some.inj e3
    subst this
    exact List.mem_of_getElem? e4
/-- the rows that the law makes of the heads are those of the smallest machine -/
theorem least_made {L : Nat} {rs : Rws} {es : List Bool} {found ks sts heads : List Nat} {done : Rws} {ps : List (Nat × Nat)} (M : MOk L rs es) (ni : NI rs L some found found done []) (hd : done.length = found.length) (lv0 : Live rs es 0)
    (lv : ∀ s, s ∈ ks ↔ (s < rs.length ∧ Live rs es s)) (hs : ∀ s, s ∈ sts ↔ (s ∈ found ∧ Live rs es s)) (hh : HD rs es (fun s => found.idxOf s) sts heads) (eq_ : ∀ a b, a ∈ sts → b ∈ sts → ((a, b) ∉ ps ↔ Eqv rs es rs es a b)) :
    Canon rs es L heads (heads.map fun h => (rs.getD h []).map (entO ks heads ps)) (heads.map fun p => es.getD p false) := by
  have hin : ∀ {i p : Nat}, heads[i]? = some p → p ∈ sts := fun e => hh.mem _ (List.mem_of_getElem? e)
  have hn : ∀ {i p c : Nat}, heads[i]? = some p → nx (heads.map fun h => (rs.getD h []).map (entO ks heads ps)) i c = entO ks heads ps (nx rs p c) := fun {i p c} e => by
    rw [nx_map e, ent_row]
    rfl
  refine least_canon M.row ni hd lv0 hs hh (List.length_map _) (fun r hr => ?_) rfl (fun i p c j h1 h2 => ?_) (fun i p c t h1 hc h2 w => ?_)
  · obtain ⟨h, hm, rfl⟩ := List.mem_map.mp hr
    rw [List.length_map]
    have hl : h < rs.length := live_lt M.row M.es ((hs h).mp (hh.mem h hm)).2
    rw [List.getD_eq_getElem?_getD, List.getElem?_eq_getElem hl]
    exact M.row _ (List.getElem_mem hl)
  · rw [hn h1] at h2
    obtain ⟨t, q, e1, e2, e3, e4⟩ := ent_some h2
    have lt := ((lv t).mp e2).2
    have tf := ni_on M.row ni hd ((hs p).mp (hin h1)).1 e1
    exact ⟨t, q, ⟨e1, lt⟩, e3, ((eq_ q t (hin e3) ((hs t).mpr ⟨tf, lt⟩)).mp e4).symm⟩
  · rw [hn h1, w.1] at h2
    have tl := live_lt M.row M.es w.2
    have tf := ni_on M.row ni hd ((hs p).mp (hin h1)).1 w.1
    obtain ⟨x, hx, e, _⟩ := hh.first t ((hs t).mpr ⟨tf, w.2⟩)
    obtain ⟨j, hj⟩ := List.mem_iff_getElem?.mp hx
    exact (eq_ x t (hin hj) ((hs t).mpr ⟨tf, w.2⟩)).mpr e (ent_none h2 ((lv t).mpr ⟨tl, w.2⟩) hj)
def sT (ks heads : List Nat) (ps : List (Nat × Nat)) (o : Option Nat) (j : Nat) : Bool := match o with
  | none => false
  | some t => decide (t ∈ ks) && !decide ((heads.getD j 0, t) ∈ ps)
theorem sT_same {ks heads : List Nat} {ps : List (Nat × Nat)} {o : Option Nat} : (List.range heads.length).filter (sT ks heads ps o) = sameL ks heads ps o := by
  cases o with
  | none => exact List.filter_eq_nil_iff.mpr fun x _ z => by cases z
  | some t => rfl

section
variable {P : Program} {w : World} {K : PySem.W.Frag} {mg : Str → Option Value} {base : Heap}
theorem scLeast : FnScope ["_law_letters", "_law_rows", "_law_ends", "_law_alive", "_law_states", "_law_state", "_law_held", "_law_many", "_law_one_here", "_law_other", "_law_heads", "_law_head", "_law_found", "_law_row", "_law_item", "_law_same", "_law_at"] ["_law_letters", "_law_rows", "_law_ends"] (defScope sLeast) := ⟨rfl, rfl, rfl, by decide +kernel, rfl, by decide +kernel, by decide +kernel⟩
def spLeast (K : PySem.W.Frag) : Sp := fun vs H Q _ => ∃ (L : Nat) (rs : Rows) (es : List Bool) (m pr pe : Addr) (rvs : List V) (B : Addr → Prop), vs = [.int (L : Int), .ref pr, .ref pe] ∧ MOk L rs es ∧ MB H L rs es m pr pe rvs ∧ TB B H ∧ rs.length ≤ 64 ∧
  ∀ (H' : Hp) (v : V) (out : Rws) (oe : List Bool), Same H H' → Dt B K H' v (machDt L out oe) → Smallest rs es L out oe → Q v H'
theorem ok_least {f fOP fMT fAP : Addr} {fd fdOP fdMT fdAP : FuncData} (F : Fun K "_law_least" "_law_least" sLeast f fd)
    (OP : FnOk P w K mg base CX0 1 fOP fdOP ["_law_rows", "_law_ends"] spOpen) (FOP : Fun K "_law_open" "_law_open" sOpen fOP fdOP) (bOP : Binds K fdOP ["_law_rows", "_law_ends"] []) (gOP : mg "_law_open" = some (.ref fOP))
    (MT : FnOk P w K mg base CX0 1 fMT fdMT ["_law_rows"] spMet) (FMT : Fun K "_law_met" "_law_met" sMet fMT fdMT) (bMT : Binds K fdMT ["_law_rows"] []) (gMT : mg "_law_met" = some (.ref fMT))
    (AP : FnOk P w K mg base CX0 1 fAP fdAP ["_law_rows", "_law_ends", "_law_alive", "_law_held", "_law_pair"] spApart) (FAP : Fun K "_law_are_apart" "_law_are_apart" sApart fAP fdAP) (bAP : Binds K fdAP ["_law_rows", "_law_ends", "_law_alive", "_law_held", "_law_pair"] []) (gAP : mg "_law_are_apart" = some (.ref fAP)) (T : Mg mg) : FnOk P w K mg base CX0 2 f fd ["_law_letters", "_law_rows", "_law_ends"] (spLeast K) := by
  refine F.ok scLeast (fun vs H Q E h => ?_) (fun cdv A outer s H vs Q E hr h => ?_)
  · obtain ⟨L, rs, es, m, pr, pe, rvs, B, rfl, _⟩ := h
    rfl
  · obtain ⟨L, rs, es, m, pr, pe, rvs, B, rfl, M, MM, tb, n30, k⟩ := h
    have hu0 := hr.units0
    have hu1 := hu_of hr
    refine ⟨_, (pss_cons (ps_set (i := 3) scLeast.nd rfl (.inr rfl) (pe_call OP (hr.mono (by decide)) (by rfl) gOP FOP.kp bOP .nil pass0 (pa_cons (pv 1) (pa_cons (pv 2) pa_nil))))
      (pss_cons (ps_if (pt_cmp (pc_dnotin hu1 pe_int (pv 3))) (pss_one (ps_ret (pe_tup (pa_cons (pv 0) (pa_cons (pe_tup (pa_cons (pe_op op_repS (pe_tup (pa_cons pe_non pa_nil)) (pv 0)) pa_nil)) (pa_cons (pe_tup (pa_cons pe_bl pa_nil)) pa_nil)))))) pss_nil)
      (pss_cons (ps_setLc (i := 4) (own := [("_law_state", 5)]) (g := gName 5) rfl scLeast.nd rfl rfl (sw_true rfl rfl rfl (by decide +kernel)) (pi_list (pe_call MT (hr.mono (by decide)) (by rfl) gMT FMT.kp bMT .nil pass0 (pa_cons (pv 1) pa_nil))) (blkOk_by (N := ["_law_letters", "_law_rows", "_law_ends", "_law_alive", "_law_states", "_law_state", "_law_held", "_law_many", "_law_one_here", "_law_other", "_law_heads", "_law_head", "_law_found", "_law_row", "_law_item", "_law_same", "_law_at"]) (sc := defScope sLeast) (by decide +kernel)) (fun _ _ _ _ _ => pg_name (i := 5) scLeast.nd rfl (Or.inl rfl)) (fun _ _ _ _ _ => pts_one (pt_cmp (pc_din hu1 (pv 5) (pv 3)))) (fun _ _ _ _ _ => (pv 5)))
      (pss_cons (ps_asg (pe_tup (pa_cons pe_dnewT (pa_cons (pe_un un_neg pe_int) pa_nil))) (pg_tup rfl (pgs_cons (pg_name (i := 6) scLeast.nd rfl (.inr rfl)) (pgs_cons (pg_name (i := 7) scLeast.nd rfl (.inl rfl)) pgs_nil))))
      (pss_cons (ps_while PassesOwn.never (pt_cmpR op_ne (pe_callB (r := rLenT) call_len_dT (by rfl) T.len PySem.boot_len (pa_cons (pv 6) pa_nil)) (pv 7) (nomark _)) (pss_cons (ps_set (i := 7) scLeast.nd rfl (.inl rfl) (pe_callB (r := rLenT) call_len_dT (by rfl) T.len PySem.boot_len (pa_cons (pv 6) pa_nil)))
      (pss_one (ps_for PassesOwn.never rfl (pi_list (pv 4)) (pg_name (i := 8) scLeast.nd rfl (.inl rfl)) (pss_one (ps_for PassesOwn.never rfl (pi_list (pv 4)) (pg_name (i := 9) scLeast.nd rfl (.inl rfl)) (pss_one (ps_if (PW.pt (pw_and (pt_cmp (pc_dnotin hu1 (pe_tup (pa_cons (pv 8) (pa_cons (pv 9) pa_nil))) (pv 6))) (pw_and1 (pt_val (pe_call AP (hr.mono (by decide)) (by rfl) gAP FAP.kp bAP .nil pass0 (pa_cons (pv 1) (pa_cons (pv 2) (pa_cons (pv 3) (pa_cons (pv 6) (pa_cons (pe_tup (pa_cons (pv 8) (pa_cons (pv 9) pa_nil))) pa_nil)))))))))) (pss_one (ps_asg pe_bl (pg_sub (pv 6) (pe_tup (pa_cons (pv 8) (pa_cons (pv 9) pa_nil))) (set_dict hu1)))) pss_nil))))))))
      (pss_cons (ps_set (i := 10) scLeast.nd rfl (.inr rfl) (pe_lst pa_nil))
      (pss_cons (ps_for PassesOwn.never rfl (pi_list (pv 4)) (pg_name (i := 5) scLeast.nd rfl (.inr rfl)) (pss_one (ps_if (pt_cmpR (op_eqNilL hu0) (pe_lc (own := [("_law_head", 11)]) (g := gName 11) rfl scLeast.nd (pi_list (pv 10)) (blkOk_by (N := ["_law_letters", "_law_rows", "_law_ends", "_law_alive", "_law_states", "_law_state", "_law_held", "_law_many", "_law_one_here", "_law_other", "_law_heads", "_law_head", "_law_found", "_law_row", "_law_item", "_law_same", "_law_at"]) (sc := defScope sLeast) (by decide +kernel)) (fun _ _ _ _ _ => pg_name (i := 11) scLeast.nd rfl (Or.inl rfl)) (fun _ _ _ _ _ => pts_one (pt_cmp (pc_dnotin hu1 (pe_tup (pa_cons (pv 11) (pa_cons (pv 5) pa_nil))) (pv 6)))) (fun _ _ _ _ _ => (pv 11))) (pe_lst pa_nil) (nomark _)) (pss_one (ps_expr (pe_bm PySem.F.plainAttrs_list PySem.F.slot_list_append PySem.F.type_list_append mt_append (pv 10) (pa_cons (pv 5) pa_nil)))) pss_nil)))
      (pss_cons (ps_set (i := 12) scLeast.nd rfl (.inl rfl) (pe_lst pa_nil))
      (pss_cons (ps_for PassesOwn.never rfl (pi_list (pv 10)) (pg_name (i := 11) scLeast.nd rfl (.inl rfl)) (pss_cons (ps_set (i := 13) scLeast.nd rfl (.inl rfl) (pe_lst pa_nil))
      (pss_cons (ps_for PassesOwn.never rfl (pi_tup (pe_ix (r := rIxT K) ix_tup (pv 1) (pv 11) (fun _ _ => rfl))) (pg_name (i := 14) scLeast.nd rfl (.inr rfl)) (pss_cons (ps_setLc (i := 15) (own := [("_law_at", 16)]) (g := gName 16) rfl scLeast.nd rfl rfl (sw_true rfl rfl rfl (by decide +kernel)) (pi_range1 (by rfl) T.range (pa_cons (pe_callB (r := rLen K) call_len_seq (by rfl) T.len PySem.boot_len (pa_cons (pv 10) pa_nil)) pa_nil)) (blkOk_by (N := ["_law_letters", "_law_rows", "_law_ends", "_law_alive", "_law_states", "_law_state", "_law_held", "_law_many", "_law_one_here", "_law_other", "_law_heads", "_law_head", "_law_found", "_law_row", "_law_item", "_law_same", "_law_at"]) (sc := defScope sLeast) (by decide +kernel)) (fun _ _ _ _ _ => pg_name (i := 16) scLeast.nd rfl (Or.inl rfl)) (fun _ _ _ _ _ => pts_one (PW.pt (pw_and (pt_cmp (pc_dinN hu1 (pv 14) (pv 3))) (pw_and1 (pt_cmp (pc_dnotin hu1 (pe_tup (pa_cons (pe_ix (r := rIxL K) ix_list (pv 10) (pv 16) (fun _ _ => rfl)) (pa_cons (pv 14) pa_nil))) (pv 6))))))) (fun _ _ _ _ _ => (pv 16)))
      (pss_one (ps_expr (pe_bm PySem.F.plainAttrs_list PySem.F.slot_list_append PySem.F.type_list_append mt_append (pv 13) (pa_cons (pe_ifExp (pt_cmpR (op_neNilL hu0) (pv 15) (pe_lst pa_nil) (nomark _)) (pe_ix (r := rIxL K) ix_list (pv 15) pe_int (fun _ _ => rfl)) pe_non) pa_nil))))))
      (pss_one (ps_expr (pe_bm PySem.F.plainAttrs_list PySem.F.slot_list_append PySem.F.type_list_append mt_append (pv 12) (pa_cons (pe_callTy (r := rTup K) call_tuple_of (by rfl) T.tuple PyProof.Rows.boot_tuple (pa_cons (pv 13) pa_nil)) pa_nil)))))))
      (pss_one (ps_ret (pe_tup (pa_cons (pv 0) (pa_cons (pe_callTy (r := rTup K) call_tuple_of (by rfl) T.tuple PyProof.Rows.boot_tuple (pa_cons (pv 12) pa_nil)) (pa_cons (pe_callTy (r := rTup K) call_tuple_of (by rfl) T.tuple PyProof.Rows.boot_tuple (pa_cons (pe_lc (own := [("_law_head", 11)]) (g := gName 11) (tt := tYes) rfl scLeast.nd (pi_list (pv 10)) (blkOk_by (N := ["_law_letters", "_law_rows", "_law_ends", "_law_alive", "_law_states", "_law_state", "_law_held", "_law_many", "_law_one_here", "_law_other", "_law_heads", "_law_head", "_law_found", "_law_row", "_law_item", "_law_same", "_law_at"]) (sc := defScope sLeast) (by decide +kernel)) (fun _ _ _ _ _ => pg_name (i := 11) scLeast.nd rfl (Or.inl rfl)) (fun _ _ _ _ _ => pts_nil) (fun _ _ _ _ _ => (pe_callTy call_bool1 (by rfl) T.bool PyProof.Rows.boot_bool (pa_cons (pe_ix (r := rIxT K) ix_tup (pv 2) (pv 11) (fun _ _ => rfl)) pa_nil)))) pa_nil)) pa_nil))))))))))))))), ?_⟩
    have L1 := M.L1
    have L3 := M.L3
    refine ⟨_, rfl, _, rfl, L, rs, es, m, pr, pe, rvs, rfl, M, MM, fun H1 al ks s1 al0 hal lv => ?_⟩
    refine ⟨_, rfl, al, _, rfl, DGet.k (k := .inl ((0 : Nat) : Int)) hal, _, rfl, ?_⟩
    have tb1 := tb_same s1 tb
    by_cases h0 : 0 ∈ ks
    · rw [og_yes (k := 0) opI h0]
      have lv0 := ((lv 0).mp h0).2
      -- the states
      refine ⟨_, rfl, L, rs, es, m, pr, pe, rvs, rfl, M, MM.same s1, fun H2 o found done s2 o0 ho ni hdn flt => ?_⟩
      refine ⟨o, rfl, ⟨_, SqL.of ho⟩, fun D hD => ?_⟩
      have fl := nodup_len ni.nd flt
      refine lc_list (K := K) (a := o) (xs := found.map natV) (KInv (fun s : Nat => decide (s ∈ ks)) natV found H2 D) (kstart hD) (fun i H' _ q => SqL.of (q.1 _ _ ho)) ?_ ?_
      · rintro i x H3 hx p1
        obtain ⟨u, hu, rfl⟩ := natV_of hx
        have hal3 := p1.1 _ _ (s2 _ _ hal)
        refine ⟨rfl, _, rfl, _, rfl, al, _, rfl, DGet.k (k := .inl (u : Int)) hal3, _, rfl, ?_⟩
        by_cases hb : u ∈ ks
        · rw [og_yes opI hb]
          exact ⟨_, rfl, kyes (t := fun s : Nat => decide (s ∈ ks)) (small1000 (by omega)) hD hu (decide_eq_true hb) p1 (Same.refl _)⟩
        · rw [og_nob opI hb]
          exact kno (t := fun s : Nat => decide (s ∈ ks)) hu (decide_eq_false hb) p1 (Same.refl _)
      · rintro H3 p1
        obtain ⟨s3, hl3⟩ := kend (List.length_map _) p1
        have hsts : ∀ s, s ∈ found.filter (fun s : Nat => decide (s ∈ ks)) ↔ (s ∈ found ∧ Live rs es s) := fun s => by
          rw [List.mem_filter, decide_eq_true_eq, lv]
          exact ⟨fun q => ⟨q.1, q.2.2⟩, fun q => ⟨q.1, flt s q.1, q.2⟩⟩
        have snd : (found.filter (fun s : Nat => decide (s ∈ ks))).Nodup := List.Pairwise.filter _ ni.nd
        have sup := met_up ni.nd (fun s : Nat => decide (s ∈ ks))
        have hal3 := s3 _ _ (s2 _ _ hal)
        have s03 := (s1.trans s2).trans s3
        clear p1
        generalize found.filter (fun s : Nat => decide (s ∈ ks)) = sts at *
        have slt : ∀ s ∈ sts, s < rs.length := fun s hs => flt s ((hsts s).mp hs).1
        have sle := nodup_len snd slt
        have MM3 := MM.same s03
        intro d hd
        have sd_ := same_new (o := .dT []) hd
        refine ⟨_, rfl, by show 2 ≤ sizeLine; decide, fun T2 hT => ⟨T2, _, rfl, SqT.of upd_same, rfl, _, _, rfl, _, _, rfl, rfl, ?_⟩⟩
        have s4 : Same H3 (upd (upd H3 d (.dT [])) T2 (.tup [.ref d, .int (-1)])) := sd_.trans (same_new hT)
        have hd4 : (upd (upd H3 d (.dT [])) T2 (.tup [.ref d, .int (-1)])) d = some (.dT (hpK [])) := same_new hT _ _ upd_same
        clear hT
        generalize upd (upd H3 d (.dT [])) T2 (.tup [.ref d, .int (-1)]) = H4 at *
        refine while_by (fun σ H' => ∃ (ps : List (Nat × Nat)) (many : Int) (y8 y9 : Option V), σ = [some (.int (L : Int)), some (.ref pr), some (.ref pe), some (.ref al), some (.ref D), none, some (.ref d), some (.int many), y8, y9, none, none, none, none, none, none, none] ∧ Same H3 H' ∧ H' d = some (.dT (hpK ps)) ∧ ps.Nodup ∧ (∀ p ∈ ps, p.1 ∈ sts ∧ p.2 ∈ sts ∧ ¬ Eqv rs es rs es p.1 p.2) ∧ -1 ≤ many ∧ many ≤ ps.length ∧ (many = ps.length → ∀ a ∈ sts, ∀ b ∈ sts, Apart rs es (fun p q => (p, q) ∈ ps) a b → (a, b) ∈ ps))
          (fun (σ : List (Option V)) (_ : Hp) => match σ[7]? with
            | some (some (V.int i)) => (5000 - i).toNat
            | _ => 0) ⟨[], -1, _, _, rfl, s4, hd4, List.nodup_nil, (fun p hp => absurd hp List.not_mem_nil), Int.le_refl _, by decide, (fun z => by cases z)⟩ ?_ ?_
        · rintro σ H5 ⟨ps, many, y8, y9, rfl, s5, hd5, nd, so, b1, b2, cl⟩
          have plen : ∀ {ps : List (Nat × Nat)}, ps.Nodup → (∀ p ∈ ps, p.1 ∈ sts ∧ p.2 ∈ sts ∧ ¬ Eqv rs es rs es p.1 p.2) → ps.length ≤ 4100 := fun {ps} nd so => by
            have := pairs_len nd (fun p hp => ⟨slt _ (so p hp).1, slt _ (so p hp).2.1⟩)
            have h2 : rs.length * rs.length ≤ 64 * 64 := Nat.mul_le_mul n30 n30
            omega
          have pl := plen nd so
          refine ⟨_, rfl, d, _, rfl, hd5, _, rfl, rfl, _, rfl, ite2 (fun h => ?_) (fun h => ?_)⟩
          · have hne : ¬ many = (ps.length : Int) := fun z => of_decide_eq_false (not_cases h) (by rw [z, og_len])
            refine ⟨_, rfl, d, _, rfl, hd5, ?_⟩
            refine ⟨_, rfl, D, rfl, ⟨_, SqL.of (s5 _ _ hl3)⟩, ?_⟩
            refine for_list (K := K) (a := D) (xs := sts.map natV) (fun i σ H' => ∃ (ps' : List (Nat × Nat)) (y8 y9 : Option V), σ = [some (.int (L : Int)), some (.ref pr), some (.ref pe), some (.ref al), some (.ref D), none, some (.ref d), some (.int (ps.length : Int)), y8, y9, none, none, none, none, none, none, none] ∧ Same H3 H' ∧ H' d = some (.dT (hpK ps')) ∧ ps'.Nodup ∧ (∀ p ∈ ps', p.1 ∈ sts ∧ p.2 ∈ sts ∧ ¬ Eqv rs es rs es p.1 p.2) ∧ ps.length ≤ ps'.length ∧ (ps'.length = ps.length → ∀ a ∈ sts.take i, ∀ b ∈ sts, Apart rs es (fun p q => (p, q) ∈ ps') a b → (a, b) ∈ ps'))
              ⟨ps, _, _, by rw [og_len]; rfl, s5, hd5, nd, so, Nat.le_refl _, fun _ a ha => absurd ha (by rw [List.take_zero]; exact List.not_mem_nil)⟩ (fun i σ H' _ p => by
                obtain ⟨_, _, _, _, s', _⟩ := p
                exact SqL.of (s' _ _ hl3)) ?_ ?_
            · rintro i x σ H6 hx ⟨ps1, z8, z9, rfl, s6, hd6, nd1, so1, b3, cl1⟩
              obtain ⟨a, ha, rfl⟩ := natV_of hx
              have ham := List.mem_of_getElem? ha
              have tka : sts.take (i + 1) = sts.take i ++ [a] := by rw [List.take_add_one, ha]; rfl
              refine ⟨_, rfl, D, rfl, ⟨_, SqL.of (s6 _ _ hl3)⟩, ?_⟩
              refine for_list (K := K) (a := D) (xs := sts.map natV) (fun j σ H' => ∃ (ps' : List (Nat × Nat)) (y9 : Option V), σ = [some (.int (L : Int)), some (.ref pr), some (.ref pe), some (.ref al), some (.ref D), none, some (.ref d), some (.int (ps.length : Int)), some (.int (a : Int)), y9, none, none, none, none, none, none, none] ∧ Same H3 H' ∧ H' d = some (.dT (hpK ps')) ∧ ps'.Nodup ∧ (∀ p ∈ ps', p.1 ∈ sts ∧ p.2 ∈ sts ∧ ¬ Eqv rs es rs es p.1 p.2) ∧ ps.length ≤ ps'.length ∧ (ps'.length = ps.length → (∀ a ∈ sts.take i, ∀ b ∈ sts, Apart rs es (fun p q => (p, q) ∈ ps') a b → (a, b) ∈ ps') ∧ ∀ b ∈ sts.take j, Apart rs es (fun p q => (p, q) ∈ ps') a b → (a, b) ∈ ps'))
                ⟨ps1, _, rfl, s6, hd6, nd1, so1, b3, fun e => ⟨cl1 e, fun b hb => absurd hb (by rw [List.take_zero]; exact List.not_mem_nil)⟩⟩ (fun i σ H' _ p => by
                  obtain ⟨_, _, _, s', _⟩ := p
                  exact SqL.of (s' _ _ hl3)) ?_ ?_
              · rintro j x σ H7 hx ⟨ps2, z9', rfl, s7, hd7, nd2, so2, b4, cl2⟩
                obtain ⟨b, hb, rfl⟩ := natV_of hx
                have hbm := List.mem_of_getElem? hb
                have tkb : sts.take (j + 1) = sts.take j ++ [b] := by rw [List.take_add_one, hb]; rfl
                have pl2 := plen nd2 so2
                refine ⟨_, rfl, _, rfl, by show 2 ≤ sizeLine; decide, fun t1 ht1 => ?_⟩
                have sa := same_new (o := .tup [V.int (a : Int), V.int (b : Int)]) ht1
                refine ⟨_, rfl, d, _, rfl, DGet.t (k := [.inl (a : Int), .inl (b : Int)]) (sa _ _ hd7) upd_same, _, rfl, ?_⟩
                by_cases hin : (a, b) ∈ ps2
                · rw [og_yes (k := (a, b)) hpI hin]
                  refine ⟨ps2, _, rfl, s7.trans sa, sa _ _ hd7, nd2, so2, b4, fun e => ⟨(cl2 e).1, fun y hy q => ?_⟩⟩
                  rw [tkb] at hy
                  rcases List.mem_append.mp hy with z | z
                  · exact (cl2 e).2 y z q
                  · rw [List.mem_singleton.mp z]
                    exact hin
                · rw [og_nob (k := (a, b)) hpI hin]
                  have s8 := s7.trans sa
                  have hd8 := sa _ _ hd7
                  clear ht1 sa
                  generalize upd H7 t1 (.tup [V.int (a : Int), V.int (b : Int)]) = H8 at *
                  refine ⟨_, rfl, _, rfl, _, rfl, _, rfl, _, rfl, _, rfl, by show 2 ≤ sizeLine; decide, fun t2 ht2 => ?_⟩
                  have sb := same_new (o := .tup [V.int (a : Int), V.int (b : Int)]) ht2
                  have hd9 := sb _ _ hd8
                  have s9 := s8.trans sb
                  have g9 : (upd H8 t2 (.tup [V.int (a : Int), V.int (b : Int)])) t2 = some (.tup [V.int (a : Int), V.int (b : Int)]) := upd_same
                  refine ⟨L, rs, es, m, pr, pe, rvs, al, d, t2, ks, ps2, a, b, rfl, M, MM3.same s9, s9 _ _ hal3, hd9, g9, slt a ham, slt b hbm, lv, fun H10 t s10 ht => ?_⟩
                  have hd10 := s10 _ _ hd9
                  have s11 := s9.trans s10
                  refine ⟨_, rfl, ?_⟩
                  cases t with
                  | false =>
                    have hno : ¬ Apart rs es (fun p q => (p, q) ∈ ps2) a b := fun z => by
                      have := ht.mpr z
                      cases this
                    refine ⟨ps2, _, rfl, s11, hd10, nd2, so2, b4, fun e => ⟨(cl2 e).1, fun y hy q => ?_⟩⟩
                    rw [tkb] at hy
                    rcases List.mem_append.mp hy with z | z
                    · exact (cl2 e).2 y z q
                    · rw [List.mem_singleton.mp z] at q
                      exact absurd q hno
                  | true =>
                    have yes := ht.mp rfl
                    refine ⟨_, rfl, _, rfl, _, rfl, by show 2 ≤ sizeLine; decide, fun t3 ht3 => ?_⟩
                    have sc := same_new (o := .tup [V.int (a : Int), V.int (b : Int)]) ht3
                    have dp := DPut.t (k := [.inl (a : Int), .inl (b : Int)]) (v := .bl true) (sc _ _ hd10) (upd_same (a := t3) (H := H10) (o := .tup [V.int (a : Int), V.int (b : Int)])) (small5 (by rw [og_len]; omega))
                    rw [og_put (k := (a, b)) hpI hin] at dp
                    refine ⟨d, _, rfl, dp, ps2 ++ [(a, b)], _, rfl, fun z o e => ?_, upd_same, ?_, fun p hp => ?_, by rw [List.length_append]; omega, fun e => ?_⟩
                    · rw [upd_ne (ne_of_none e hd)]
                      exact (s11.trans sc) _ _ e
                    · rw [List.nodup_append]
                      exact ⟨nd2, List.nodup_cons.mpr ⟨List.not_mem_nil, List.nodup_nil⟩, fun x hx y hy z => hin (by rw [← List.mem_singleton.mp hy, ← z]; exact hx)⟩
                    · rcases List.mem_append.mp hp with z | z
                      · exact so2 p z
                      · rw [List.mem_singleton.mp z]
                        exact ⟨ham, hbm, yes.no fun p q h => (so2 (p, q) h).2.2⟩
                    · rw [List.length_append, List.length_singleton] at e
                      omega
              · rintro σ H7 ⟨ps2, z9', rfl, s7, hd7, nd2, so2, b4, cl2⟩
                rw [List.length_map, List.take_length] at cl2
                refine ⟨ps2, _, _, rfl, s7, hd7, nd2, so2, b4, fun e y hy => ?_⟩
                rw [tka] at hy
                rcases List.mem_append.mp hy with z | z
                · exact (cl2 e).1 y z
                · rw [List.mem_singleton.mp z]
                  exact (cl2 e).2
            · rintro σ H6 ⟨ps1, z8, z9, rfl, s6, hd6, nd1, so1, b3, cl1⟩
              rw [List.length_map, List.take_length] at cl1
              have pl1 := plen nd1 so1
              refine ⟨⟨ps1, _, _, _, rfl, s6, hd6, nd1, so1, by omega, by omega, fun e => cl1 (by omega)⟩, ?_⟩
              show (5000 - (ps.length : Int)).toNat < (5000 - many).toNat
              omega
          · have e := of_decide_eq_true (not_cases' h)
            rw [og_len] at e
            have e : many = (ps.length : Int) := (V.int.inj e).symm
            have cl := cl e
            have eq_ : ∀ a b, a ∈ sts → b ∈ sts → ((a, b) ∉ ps ↔ Eqv rs es rs es a b) := fun a b ha hb => by
              refine ⟨fun n => held_done (H := fun p q => (p, q) ∈ ps) (D := fun s => s ∈ sts) (fun s c t hs w => ?_) (fun a b ha hb => cl a ha b hb) a b ha hb n, fun e z => (so (a, b) z).2.2 e⟩
              exact (hsts t).mpr ⟨ni_on M.row ni hdn ((hsts s).mp hs).1 w.1, w.2⟩
            refine ⟨by show 0 ≤ sizeLine; decide, fun hq hhq => ?_⟩
            have hq3 : H3 hq = none := s5.free hhq
            have sA := s5.trans (same_new (o := .lst []) hhq)
            have hdA := same_new (o := .lst []) hhq _ _ hd5
            have hqA : (upd H5 hq (.lst [])) hq = some (.lst (([] : List Nat).map natV)) := upd_same
            have ndh : d ≠ hq := fun z => by rw [z, hhq] at hd5; cases hd5
            clear hd5 s5 hhq
            generalize upd H5 hq (.lst []) = H6 at *
            refine ⟨_, rfl, D, rfl, ⟨_, SqL.of (sA _ _ hl3)⟩, ?_⟩
            refine for_list (K := K) (a := D) (xs := sts.map natV) (fun i σ H' => ∃ (heads : List Nat) (y5 : Option V), σ = [some (.int (L : Int)), some (.ref pr), some (.ref pe), some (.ref al), some (.ref D), y5, some (.ref d), some (.int many), y8, y9, some (.ref hq), none, none, none, none, none, none] ∧ Same H3 H' ∧ H' d = some (.dT (hpK ps)) ∧ H' hq = some (.lst (heads.map natV)) ∧ HD rs es (fun s => found.idxOf s) (sts.take i) heads)
              ⟨[], _, rfl, sA, hdA, hqA, by rw [List.take_zero]; exact hd_start⟩ (fun i σ H' _ p => by
                obtain ⟨_, _, _, s', _⟩ := p
                exact SqL.of (s' _ _ hl3)) ?_ ?_
            · rintro i x σ H7 hx ⟨heads, y5, rfl, s7, hd7, hq7, HH⟩
              obtain ⟨a, ha, rfl⟩ := natV_of hx
              have ham := List.mem_of_getElem? ha
              have tka : sts.take (i + 1) = sts.take i ++ [a] := by rw [List.take_add_one, ha]; rfl
              have hin : ∀ x ∈ heads, x ∈ sts := fun x hx => List.mem_of_mem_take (HH.mem x hx)
              have hnd : heads.Nodup := HH.up.imp (fun {a b} l e => by rw [e] at l; omega)
              have hle := nodup_len hnd (fun x hx => slt x (hin x hx))
              refine ⟨_, rfl, hq, rfl, ⟨_, SqL.of hq7⟩, fun D2 hD2 => ?_⟩
              refine lc_list (K := K) (a := hq) (xs := heads.map natV) (KInv (fun x : Nat => !decide ((x, a) ∈ ps)) natV heads H7 D2) (kstart hD2) (fun i H' _ q => SqL.of (q.1 _ _ hq7)) ?_ ?_
              · rintro j x H8 hx p1
                obtain ⟨b, hb, rfl⟩ := natV_of hx
                refine ⟨rfl, _, rfl, _, rfl, by show 2 ≤ sizeLine; decide, fun t1 ht1 => ?_⟩
                have sa := same_new (o := .tup [V.int (b : Int), V.int (a : Int)]) ht1
                refine ⟨_, rfl, d, _, rfl, DGet.t (k := [.inl (b : Int), .inl (a : Int)]) (sa _ _ (p1.1 _ _ hd7)) upd_same, _, rfl, ?_⟩
                by_cases hin2 : (b, a) ∈ ps
                · rw [og_yes (k := (b, a)) hpI hin2]
                  exact kno (t := fun x : Nat => !decide ((x, a) ∈ ps)) hb (by rw [decide_eq_true hin2]; rfl) p1 sa
                · rw [og_nob (k := (b, a)) hpI hin2]
                  exact ⟨_, rfl, kyes (t := fun x : Nat => !decide ((x, a) ∈ ps)) (small1000 (by omega)) hD2 hb (by rw [decide_eq_false hin2]; rfl) p1 sa⟩
              · rintro H8 p1
                obtain ⟨s8, hl8⟩ := kend (List.length_map _) p1
                refine ⟨by show 0 ≤ sizeLine; decide, fun e0 he0 => ?_⟩
                have sb := same_new (o := .lst []) he0
                have hl9 := sb _ _ hl8
                have s9 := (s7.trans s8).trans sb
                have hd9 := sb _ _ (s8 _ _ hd7)
                have hq9 := sb _ _ (s8 _ _ hq7)
                refine ⟨D2, e0, _, rfl, rfl, SqL.of hl9, SqL.of upd_same, _, rfl, ?_⟩
                have seenlt : ∀ t ∈ sts.take i, found.idxOf t < found.idxOf a := fun t ht => by
                  obtain ⟨j, hj⟩ := List.mem_iff_getElem?.mp ht
                  rw [List.getElem?_take] at hj
                  split at hj
                  · rename_i ji
                    exact pair_lt sup hj ha ji
                  · cases hj
                clear hl9 hl8 p1
                generalize upd H8 e0 (.lst []) = H9 at *
                by_cases he : heads.filter (fun x : Nat => !decide ((x, a) ∈ ps)) = []
                · rw [he]
                  refine ⟨_, rfl, .inl ⟨rfl, _, SqL.of hq9⟩, _, rfl, hq, _, _, rfl, rfl, hq9, small1000 (by rw [List.length_map]; omega), ?_⟩
                  refine ⟨heads ++ [a], _, rfl, fun z o e => ?_, by rw [upd_ne ndh]; exact hd9, by rw [upd_same, List.map_append]; rfl, ?_⟩
                  · rw [upd_ne (ne_of_none e hq3)]
                    exact s9 _ _ e
                  · rw [tka]
                    refine HH.new seenlt fun x hx e => ?_
                    have hn := (eq_ x a (hin x hx) ham).mpr e
                    have : x ∈ heads.filter (fun x : Nat => !decide ((x, a) ∈ ps)) := List.mem_filter.mpr ⟨hx, by rw [decide_eq_false hn]; rfl⟩
                    rw [he] at this
                    exact List.not_mem_nil this
                · have hne : (decide ((heads.filter (fun x : Nat => !decide ((x, a) ∈ ps))).map natV = [])) = false := decide_eq_false (fun z => he (List.map_eq_nil_iff.mp z))
                  show (if decide ((heads.filter (fun x : Nat => !decide ((x, a) ∈ ps))).map natV = []) = true then _ else _)
                  rw [hne]
                  refine ⟨heads, _, rfl, s9, hd9, hq9, ?_⟩
                  rw [tka]
                  obtain ⟨x, hx⟩ := List.exists_mem_of_ne_nil _ he
                  obtain ⟨h1, h2⟩ := List.mem_filter.mp hx
                  have hn : (x, a) ∉ ps := fun z => by
                    rw [decide_eq_true z] at h2
                    cases h2
                  exact HH.old seenlt h1 ((eq_ x a (hin x h1) ham).mp hn)
            · rintro σ H7 ⟨heads, y5, rfl, s7, hd7, hq7, HH⟩
              rw [List.length_map, List.take_length] at HH
              have hin : ∀ x ∈ heads, x ∈ sts := fun x hx => HH.mem x hx
              have hnd : heads.Nodup := HH.up.imp (fun {a b} l e => by rw [e] at l; omega)
              have hle := nodup_len hnd (fun x hx => slt x (hin x hx))
              have CN := least_made M ni hdn lv0 lv hsts HH eq_
              have hhl : ∀ x ∈ heads, x < rs.length := fun x hx => slt x (hin x hx)
              have s07 := s03.trans s7
              have al7 := s7 _ _ hal3
              have MM7 := MM3.same s7
              have tb7 := tb_same s07 tb
              clear sA hdA hqA hd4 s4 sd_ MM3 tb1
              refine ⟨by show 0 ≤ sizeLine; decide, fun F hF => ?_⟩
              have sF := same_new (o := .lst []) hF
              have hF8 : (upd H7 F (.lst [])) F = some (.lst []) := upd_same
              generalize upd H7 F (.lst []) = H8 at *
              refine ⟨_, rfl, hq, rfl, ⟨_, SqL.of (sF _ _ hq7)⟩, ?_⟩
              refine for_list (K := K) (a := hq) (xs := heads.map natV) (fun i σ H' => ∃ (rvs' : List V) (y11 y13 y14 y15 : Option V), σ = [some (.int (L : Int)), some (.ref pr), some (.ref pe), some (.ref al), some (.ref D), y5, some (.ref d), some (.int many), y8, y9, some (.ref hq), y11, some (.ref F), y13, y14, y15, none] ∧ Same H7 H' ∧ H' F = some (.lst rvs') ∧ DtAll (fun b => B b ∨ b = F) K H' rvs' ((heads.take i).map fun h => rowDt ((rs.getD h []).map (entO ks heads ps))))
                ⟨[], _, _, _, _, rfl, sF, hF8, .nil⟩ (fun i σ H' _ p => by
                  obtain ⟨_, _, _, _, _, _, s', _⟩ := p
                  exact SqL.of (s' _ _ hq7)) ?_ ?_
              · rintro i x σ H9 hx ⟨rvs', y11, y13, y14, y15, rfl, s9, hF9, dr9⟩
                obtain ⟨a, ha, rfl⟩ := natV_of hx
                have ham := List.mem_of_getElem? ha
                have tka : heads.take (i + 1) = heads.take i ++ [a] := by rw [List.take_add_one, ha]; rfl
                have il := (List.getElem?_eq_some_iff.mp ha).1
                have rl := dr9.len
                rw [List.length_map, List.length_take] at rl
                obtain ⟨row, hrow⟩ : ∃ row, rs[a]? = some row := ⟨_, List.getElem?_eq_getElem (hhl a ham)⟩
                have hgd : rs.getD a [] = row := by
                  rw [List.getD_eq_getElem?_getD, hrow]
                  rfl
                have hrl := M.row row (List.mem_of_getElem? hrow)
                refine ⟨by show 0 ≤ sizeLine; decide, fun R hR => ?_⟩
                have dr10 := same_all (same_new (o := .lst []) hR) (DtAll.off hR _ _ dr9)
                have sR := same_new (o := .lst []) hR
                have hR10 : (upd H9 R (.lst [])) R = some (.lst (([] : List (Option Nat)).map oV)) := upd_same
                have nRF : R ≠ F := fun z => by rw [z, hF9] at hR; cases hR
                have R7 : H7 R = none := s9.free hR
                have s10 := s9.trans sR
                have hF10 := sR _ _ hF9
                clear hR sR
                generalize upd H9 R (.lst []) = H10 at *
                obtain ⟨q, hq1, hq2⟩ := (MM7.same s10).row a row hrow
                obtain ⟨q', hq1', hq2'⟩ := MM7.row a row hrow
                have : q' = q := V.ref.inj (Option.some.inj (hq1'.symm.trans hq1))
                subst this
                refine ⟨_, rfl, _, rfl, pr, rvs, (a : Int), _, rfl, rfl, .inl (MM7.same s10).hr, atI_nat hq1, q', rfl, ⟨_, .inl hq2⟩, ?_⟩
                refine for_tup (K := K) (a := q') (xs := row.map oV) (fun j σ H' => (∃ y14 y15, σ = [some (.int (L : Int)), some (.ref pr), some (.ref pe), some (.ref al), some (.ref D), y5, some (.ref d), some (.int many), y8, y9, some (.ref hq), some (.int (a : Int)), some (.ref F), some (.ref R), y14, y15, none]) ∧ Same H7 H' ∧ H' F = some (.lst rvs') ∧ H' R = some (.lst (((row.take j).map (entO ks heads ps)).map oV)) ∧ DtAll (fun b => (B b ∨ b = F) ∨ b = R) K H' rvs' ((heads.take i).map fun h => rowDt ((rs.getD h []).map (entO ks heads ps))))
                  ⟨⟨_, _, rfl⟩, s10, hF10, hR10, dr10⟩ (fun j σ H' _ p => .inl (same_rd p.2.1 hq2')) ?_ ?_
                · rintro j x σ H11 hx ⟨⟨y14', y15', rfl⟩, s11, hF11, hR11, dr11⟩
                  rw [List.getElem?_map] at hx
                  obtain ⟨o, ho, rfl⟩ := Option.map_eq_some_iff.mp hx
                  have jl := (List.getElem?_eq_some_iff.mp ho).1
                  have hq11 := s11 _ _ hq7
                  have hd11 := s11 _ _ hd7
                  have al11 := s11 _ _ al7
                  refine ⟨_, rfl, hq, _, rfl, .inl (SqL.of hq11), ((heads.map natV).length : Int), rfl, by rw [List.length_map]; omega, by rw [List.length_map]; omega, fun D3 hD3 => ?_⟩
                  have hz0 : ∀ j : Nat, (0 : Int) + (j : Int) = (j : Int) := fun j => Int.zero_add _
                  refine lc_range (lo := 0) (n := ((heads.map natV).length : Int).toNat) (KInv (sT ks heads ps o) natV (List.range heads.length) H11 D3) (kstart hD3) ?_ ?_
                  · rintro l H12 hl p1
                    rw [Int.toNat_natCast, List.length_map] at hl
                    have hlr : (List.range heads.length)[l]? = some l := by rw [List.getElem?_range hl]
                    rw [hz0]
                    have sm1 : (List.range heads.length).length < sizeLine := small1000 (by rw [List.length_range]; omega)
                    refine ⟨rfl, _, rfl, _, rfl, ?_⟩
                    cases o with
                    | none => exact .inr ⟨al, _, rfl, rfl, .inl (p1.1 _ _ al11), _, rfl, kno (t := sT ks heads ps none) hlr rfl p1 (Same.refl _)⟩
                    | some t =>
                      refine .inl ⟨al, _, rfl, DGet.k (k := .inl (t : Int)) (p1.1 _ _ al11), _, rfl, ?_⟩
                      by_cases ht : t ∈ ks
                      · rw [og_yes opI ht]
                        obtain ⟨b, hb⟩ : ∃ b, heads[l]? = some b := ⟨_, List.getElem?_eq_getElem hl⟩
                        have hgb : heads.getD l 0 = b := by
                          rw [List.getD_eq_getElem?_getD, hb]
                          rfl
                        refine ⟨_, rfl, _, rfl, hq, _, (l : Int), _, rfl, rfl, SqL.of (p1.1 _ _ hq11), atI_nat (natV_get hb), _, rfl, by show 2 ≤ sizeLine; decide, fun t1 ht1 => ?_⟩
                        have sa := same_new (o := .tup [V.int (b : Int), oV (some t)]) ht1
                        refine ⟨_, rfl, d, _, rfl, DGet.t (k := [.inl (b : Int), .inl (t : Int)]) (sa _ _ (p1.1 _ _ hd11)) upd_same, _, rfl, ?_⟩
                        by_cases hin2 : (b, t) ∈ ps
                        · rw [og_yes (k := (b, t)) hpI hin2]
                          exact kno (t := sT ks heads ps (some t)) hlr (by show (decide (t ∈ ks) && !decide ((heads.getD l 0, t) ∈ ps)) = false; rw [hgb, decide_eq_true hin2]; exact Bool.and_false _) p1 sa
                        · rw [og_nob (k := (b, t)) hpI hin2]
                          exact ⟨_, rfl, kyes (t := sT ks heads ps (some t)) sm1 hD3 hlr (by show (decide (t ∈ ks) && !decide ((heads.getD l 0, t) ∈ ps)) = true; rw [hgb, decide_eq_true ht, decide_eq_false hin2]; rfl) p1 sa⟩
                      · rw [og_nob opI ht]
                        exact kno (t := sT ks heads ps (some t)) hlr (by show (decide (t ∈ ks) && _) = false; rw [decide_eq_false ht]; rfl) p1 (Same.refl _)
                  · rintro H12 p1
                    rw [Int.toNat_natCast, List.length_map] at p1
                    obtain ⟨s12, hl12⟩ := kend (List.length_range.symm) p1
                    rw [sT_same] at hl12
                    have rowt : (row.take (j + 1)).map (entO ks heads ps) = (row.take j).map (entO ks heads ps) ++ [entO ks heads ps o] := by
                      rw [List.take_add_one, ho, List.map_append]
                      rfl
                    have hR12 := s12 _ _ hR11
                    refine ⟨_, rfl, .inl ⟨rfl, _, SqL.of hR12⟩, ?_⟩
                    refine ⟨_, rfl, by show 0 ≤ sizeLine; decide, fun e0 he0 => ?_⟩
                    have sb := same_new (o := .lst []) he0
                    have hl13 := sb _ _ hl12
                    have hR13 := sb _ _ hR12
                    have s13 := s12.trans sb
                    have hF13 := s13 _ _ hF11
                    have dr13 := same_all s13 dr11
                    have s713 := s11.trans s13
                    have smR : (((row.take j).map (entO ks heads ps)).map oV).length < sizeLine := small1000 (by rw [List.length_map, List.length_map, List.length_take]; omega)
                    refine ⟨D3, e0, _, rfl, rfl, SqL.of hl13, SqL.of upd_same, _, rfl, ?_⟩
                    clear p1 hl12 hR12 dr11 hR11 hF11
                    generalize upd H12 e0 (.lst []) = H13 at *
                    have fin_ : ∀ v : V, v = oV (entO ks heads ps o) → ∃ p ys y, V.ref R = V.ref p ∧ [v] = [y] ∧ H13 p = some (.lst ys) ∧ ys.length < sizeLine ∧ ((∃ y14 y15, [some (.int (L : Int)), some (.ref pr), some (.ref pe), some (.ref al), some (.ref D), y5, some (.ref d), some (.int many), y8, y9, some (.ref hq), some (.int (a : Int)), some (.ref F), some (.ref R), some (oV o), some (.ref D3), none] = [some (.int (L : Int)), some (.ref pr), some (.ref pe), some (.ref al), some (.ref D), y5, some (.ref d), some (.int many), y8, y9, some (.ref hq), some (.int (a : Int)), some (.ref F), some (.ref R), y14, y15, none]) ∧ Same H7 (upd H13 p (.lst (ys ++ [y]))) ∧ (upd H13 p (.lst (ys ++ [y]))) F = some (.lst rvs') ∧ (upd H13 p (.lst (ys ++ [y]))) R = some (.lst (((row.take (j + 1)).map (entO ks heads ps)).map oV)) ∧ DtAll (fun b => (B b ∨ b = F) ∨ b = R) K (upd H13 p (.lst (ys ++ [y]))) rvs' ((heads.take i).map fun h => rowDt ((rs.getD h []).map (entO ks heads ps)))) := fun v hv => by
                      refine ⟨R, _, _, rfl, rfl, hR13, smR, ⟨_, _, rfl⟩, fun z o e => ?_, by rw [upd_ne nRF.symm]; exact hF13, by rw [upd_same, rowt, List.map_append, hv]; rfl, DtAll.keep (keep_store (.inr rfl)) _ _ dr13⟩
                      rw [upd_ne (ne_of_none e R7)]
                      exact s713 _ _ e
                    cases hs : sameL ks heads ps o with
                    | nil =>
                      exact fin_ .non (by unfold entO; rw [hs]; rfl)
                    | cons x xs =>
                      rw [hs] at hl13
                      have hne : (!decide ((x :: xs).map natV = [])) = true := by
                        rw [decide_eq_false (fun z => by cases z)]
                        rfl
                      rw [hne]
                      refine ⟨_, rfl, D3, _, 0, _, rfl, rfl, SqL.of hl13, atI_nat (j := 0) rfl, ?_⟩
                      exact fin_ (natV x) (by unfold entO; rw [hs]; rfl)
                · rintro σ H11 ⟨⟨y14', y15', rfl⟩, s11, hF11, hR11, dr11⟩
                  rw [List.length_map, List.take_length] at hR11
                  refine ⟨_, rfl, .inl ⟨rfl, _, SqL.of hF11⟩, _, rfl, R, _, rfl, .inl ⟨SqL.of hR11, fun t nt => ?_⟩⟩
                  have st := same_new (o := .tup ((row.map (entO ks heads ps)).map oV)) nt
                  have hF12 := st _ _ hF11
                  have tb11 := tb_same s11 tb7
                  have tbF : TB (fun b => B b ∨ b = F) H11 := fun b z => by
                    rcases z with z | z
                    · exact tb11 b z
                    · rw [z, hF11]
                      exact fun y => by cases y
                  have F7 : H7 F = none := hF
                  refine ⟨F, _, _, rfl, rfl, hF12, small1000 (by omega), rvs' ++ [.ref t], _, _, _, _, rfl, fun z o e => ?_, upd_same, ?_⟩
                  · rw [upd_ne (ne_of_none e F7)]
                    exact (s11.trans st) _ _ e
                  · rw [tka, List.map_append]
                    refine DtAll.keep (keep_store (.inr rfl)) _ _ ((same_all st (DtAll.weak (fun b z => .inl z) _ _ dr11)).append (.cons ?_ .nil))
                    show Dt _ K _ (V.ref t) (rowDt ((rs.getD a []).map (entO ks heads ps)))
                    rw [hgd]
                    exact .tup (tb_off tbF nt) (.inl upd_same) (dt_cs o_cs _)
              · rintro σ H9 ⟨rvs', y11, y13, y14, y15, rfl, s9, hF9, dr9⟩
                rw [List.length_map, List.take_length] at dr9
                have rl := dr9.len
                rw [List.length_map] at rl
                have tb9 := tb_same s9 tb7
                refine ⟨_, rfl, _, rfl, F, _, rfl, .inl ⟨SqL.of hF9, fun t1 nt1 => ?_⟩⟩
                have st1 := same_new (o := .tup rvs') nt1
                have dt1 : Dt B K (upd H9 t1 (.tup rvs')) (.ref t1) (.tuple (heads.map fun h => rowDt ((rs.getD h []).map (entO ks heads ps)))) := .tup (tb_off tb9 nt1) (.inl upd_same) (same_all st1 (DtAll.weak (fun b z => .inl z) _ _ dr9))
                have s10 := s9.trans st1
                have tb10 := tb_same st1 tb9
                clear nt1
                generalize upd H9 t1 (.tup rvs') = H10 at *
                have hq10 := s10 _ _ hq7
                have MM10 := MM7.same s10
                refine ⟨_, rfl, hq, rfl, ⟨_, SqL.of hq10⟩, fun D4 hD4 => ?_⟩
                refine lc_list (K := K) (a := hq) (xs := heads.map natV) (NInv (fun x : Nat => V.bl (es.getD x false)) heads H10 D4) (nstart hD4) (fun i H' _ q => SqL.of (q.1 _ _ hq10)) ?_ ?_
                · rintro i x H11 hx p1
                  obtain ⟨u, hu, rfl⟩ := natV_of hx
                  have ul : u < es.length := by rw [M.es]; exact hhl u (List.mem_of_getElem? hu)
                  refine ⟨rfl, _, rfl, _, rfl, pe, _, (u : Int), .bl (es.getD u false), rfl, rfl, .inl (MM10.same p1.1).he, atI_nat (by rw [List.getElem?_map, getD_at ul, List.getElem?_eq_getElem ul]; rfl), .inr ⟨_, rfl, ?_⟩⟩
                  exact nturn (f := fun x : Nat => V.bl (es.getD x false)) (small1000 (by omega)) hD4 hu p1 (Same.refl _)
                · rintro H11 p1
                  obtain ⟨s11, hl11⟩ := nend (List.length_map _) p1
                  refine ⟨D4, _, rfl, .inl ⟨SqL.of hl11, fun t2 nt2 => ?_⟩⟩
                  have tb11 := tb_same s11 tb10
                  have n2 := tb_off tb11 nt2
                  have st2 := same_new (o := .tup (heads.map fun x : Nat => V.bl (es.getD x false))) nt2
                  refine ⟨by show 3 ≤ sizeLine; decide, fun r nr => ?_⟩
                  have st3 := same_new (o := .tup [.int (L : Int), .ref t1, .ref t2]) nr
                  have n3 := tb_off (tb_same st2 tb11) nr
                  have s1r := s11.trans (st2.trans st3)
                  have eo : (heads.map fun h => rowDt ((rs.getD h []).map (entO ks heads ps))) = (heads.map fun h => (rs.getD h []).map (entO ks heads ps)).map rowDt := by
                    rw [List.map_map]
                    rfl
                  rw [eo] at dt1
                  have ee : (heads.map fun x : Nat => V.bl (es.getD x false)) = (heads.map fun p => es.getD p false).map V.bl := by
                    rw [List.map_map]
                    rfl
                  refine k _ (.ref r) _ _ (s07.trans (s10.trans s1r)) (.tup n3 (.inl upd_same) (.cons (.int _) (.cons (same_dt s1r dt1) (.cons (.tup n2 (same_rd st3 (.inl upd_same)) ?_) .nil)))) (.inl ⟨heads, CN⟩)
                  rw [ee]
                  exact dt_cs (fun x => Dt.bl x) _
        · rintro σ H1 Q1 Q2 hQ ⟨x, e1, a, kvs, e2, e3, y, e4, e5, b, e6, q⟩
          exact ⟨x, e1, a, kvs, e2, e3, y, e4, e5, b, e6, hQ _ _ q⟩
    · rw [og_nob (k := 0) opI h0]
      have nl : ¬ Live rs es 0 := fun q => h0 ((lv 0).mpr ⟨M.l1, q⟩)
      refine ⟨_, rfl, by show 1 ≤ sizeLine; decide, fun u1 hu1 => ?_⟩
      have e1 := same_new (o := .tup [.non]) hu1
      refine ⟨_, rfl, u1, (L : Int), _, rfl, rfl, .inl upd_same, List.cons_ne_nil _ _, by omega, by omega, by show 1 ≤ 1000; decide, fun q1 H6 s6 hq1 w1 => ?_⟩
      have n1 := nb_of (tb_same e1 tb1) (tb_off tb1 hu1) w1
      have tb6 := tb_same s6 (tb_same e1 tb1)
      refine ⟨by show 1 ≤ sizeLine; decide, fun u2 hu2 => ?_⟩
      have e2 := same_new (o := .tup [.ref q1]) hu2
      have n2 := tb_off tb6 hu2
      refine ⟨by show 1 ≤ sizeLine; decide, fun u3 hu3 => ?_⟩
      have e3 := same_new (o := .tup [.bl false]) hu3
      have n3 := tb_off (tb_same e2 tb6) hu3
      refine ⟨by show 3 ≤ sizeLine; decide, fun r nr => ?_⟩
      have e4 := same_new (o := .tup [.int (L : Int), .ref u2, .ref u3]) nr
      have n4 := tb_off (tb_same e3 (tb_same e2 tb6)) nr
      have er : (List.replicate ((L : Int)).toNat [V.non]).flatten = (List.replicate L (none : Option Nat)).map oV := by
        rw [Int.toNat_natCast, List.map_replicate, List.flatten_replicate_singleton]
        rfl
      rw [er] at hq1
      have s26 := e2.trans (e3.trans e4)
      refine k _ (.ref r) [List.replicate L none] [false] (s1.trans (e1.trans (s6.trans s26))) ?_ (.inr ⟨nl, rfl, rfl⟩)
      exact .tup n4 (.inl upd_same) (.cons (.int _) (.cons (.tup n2 (same_rd (e3.trans e4) (.inl upd_same)) (.cons (.tup n1 (same_rd s26 hq1) (dt_cs o_cs _)) .nil)) (.cons (.tup n3 (same_rd e4 (.inl upd_same)) (.cons (.bl _) .nil)) .nil)))
end
/-! ### functions made in a def, handed to another one -/
open NdefX LamX in
/-- the function F at f as it comes into a def: outer are the frames behind it -/
structure CloAt (outer : List Env) (s : Shared) (H : Hp) (F : NF) (f : Addr) (fr : List Str) (ws : List (Option V)) : Prop where
  fn : H f = some (FnO f F)
  cd : H F.c = some (CodeO F.c F.qual)
  cells : CellsAt F.cl fr ws s.heap H
  nf : ∀ y c, F.cl.lookup y = some c → c ∉ frs outer
section
open NdefX LamX
variable {P : Program} {w : World} {K : PySem.W.Frag} {mg : Str → Option Value} {base : Heap}
/-- a promise that speaks of the heap itself and of the frames behind -/
def CRun (P : Program) (w : World) (K : PySem.W.Frag) (mg : Str → Option Value) (base : Heap) (k : Nat) (f : Addr) (fd : FuncData) (ps : List Str) (sp : Shared → List Env → Sp) : Prop :=
  ∀ (A : Around) (outer : List Env) (s : Shared) (H : Hp) (us : List Value) (vs : List V) (Q : VK),
    Room k A → Env0 P w K mg base A outer s H → BindsTo s fd ⟨us, []⟩ (ps.zip us) → Vals vs us → vs.length = ps.length → sp s outer vs H Q E0 →
    codeAny (model P w) A (.call (.ref f) ⟨us, []⟩) (CR CX0 outer P w H s Q E0) s
theorem crun {x qual : Str} {st : Stmt} {f : Addr} {fd : FuncData} {N ps : List Str} {k : Nat} {sp : Shared → List Env → Sp} (F : Fun K x qual st f fd) (S : FnScope N ps (defScope st))
    (body : ∀ (cdv : Value) (A : Around) (outer : List Env) (s : Shared) (H : Hp) (vs : List V) (Q : VK), Room k (A.deeper (envOfC qual (defScope st) s.heap.objs.size f cdv)) → sp s outer vs H Q E0 →
      ∃ t, PSs (cxOf CX0 P w K mg base N qual (defScope st) f cdv A outer s H E0).nox (defBody st) t ∧ t { nx := fun _ H' => Q .non H', rt := Q } (start N vs) H) :
    CRun P w K mg base (k + 1) f fd ps sp := by
  obtain ⟨oc, od, kV, doc, pm, an, cdv, ct, osl, rfl, lk, hcd⟩ := F.ex
  intro A outer s H us vs Q hr e0 hb r hl hsp
  have inK : K.In s.heap := e0.mod.kin.keeps (fun b o q => (e0.bs b o q).1)
  have noL : s.heap.NoLimit := e0.mod.nolimit.keeps (fun b o q => (e0.bs b o q).1)
  have kinds : ∀ y ∈ ps.zip us, (defScope st).names.lookup y.1 = some .local ∨ ((defScope st).names.lookup y.1 = some .cell ∧ ((cellsFrom (s.heap.objs.size + 1) (defScope st).names []).lookup y.1).isSome = true) := by
    intro y hy
    obtain ⟨n, v⟩ := y
    cases S.par n (List.of_mem_zip hy).1 with
    | inl q => exact Or.inl q
    | inr q => exact Or.inr ⟨q, PySem.W.cellsFrom_some _ _ _ (Or.inl q)⟩
  refine codeAny_call_function hr.depth (inK _ _ lk) rfl S.co S.gen rfl (PySem.W.codeRec_of inK hcd) (hb _ _ _ _ ?_)
  refine wpAny_newFunctionEnv_cells S.kind kinds (fun env he s1 x => ?_)
  cases he
  obtain ⟨t, ht, hq⟩ := body cdv A outer s H vs Q (hr.deeper _) hsp
  have J := inv_start (CX := CX0) (mg := mg) (E := E0) S hr.hd e0 hl r x
  refine ⟨noL.keeps x.toInCall.keep, codeAny_func (wpAny_mono (ht.nox.run [] s1 (start N vs) H _ J hq) ?_ (fun e s' z => z))⟩
  intro fl s' z
  cases fl with
  | next =>
    obtain ⟨_, H', J', q⟩ := z
    exact ⟨.non, H', J'.os, J'.bare, J'.base, J'.hok, rfl, q⟩
  | ret u =>
    obtain ⟨v, _, H', J', rv, q⟩ := z
    exact ⟨v, H', J'.os, J'.bare, J'.base, J'.hok, rv, q⟩
  | brk => exact (z.choose_spec.choose_spec.2).elim
  | cont => exact (z.choose_spec.choose_spec.2).elim
end
section
open NdefX LamX
variable {X : Cx} {k j i : Nat} {f : Addr} {fd : FuncData} {sp : Shared → List Env → Sp} {x : Str} {p pos : Pos} {e : Expr} {es : List Expr} {t : TA} {ps fr : List Str} {F : NF} {ws : List (Option V)} {E : XK}
/-- f(e, ..), where functions that the running def made are handed on: what holds of each of them -/
def tCallC (X : Cx) (sp : Shared → List Env → Sp) (n : Nat) (t : TA) : TE := fun σ H Q => t σ H fun vs H1 => vs.length = n ∧
  ∀ (s : Shared) (outer : List Env), (∀ (F : NF) (g : Addr) (fr : List Str) (js : List Nat), (X.Ok → Caps X F.cl fr js) → H1 g = some (FnO g F) → H1 F.c = some (CodeO F.c F.qual) → CloAt outer s H1 F g fr (js.map (slotAt σ))) → sp s outer vs H1 Q E0
theorem pe_callC (R : CRun X.prog X.w X.K X.mg X.base k f fd ps sp) (hfn : ∀ y, X.fn y = true) (hr : Room k X.A) (hg : Gl X x) (hm : X.mg x = some (.ref f)) (hk : PySem.W.keepIn X.K (.ref f) = true) (hb : Binds X.K fd ps [])
    (ha : PA X (e :: es) t) (hdb : (x == ("__debug__" : Str)) = false := by decide) (he : starEach (e :: es) X.env = (false, eval e X.env) :: starEach es X.env := by rfl) (hpl : (backTo pos (starEach es X.env)).any (·.1) = false := by rfl) :
    PE X (.Call (.Name x p) (e :: es) [] pos) (tCallC X sp ps.length t) := by
  refine ⟨fun pins s σ H Q I h => ?_⟩
  refine wpAny_Call_Name_kw (ld_glob I hg hm ?_ hdb)
  refine PySem.W.callWith_K (h₀ := X.base) I.ok.mod.kin hk (thn (ha.run pos pins s σ H _ I h) fun us s1 ⟨vs, H1, I1, r, hl, q⟩ => ⟨I1.kIn, ?_⟩) he hpl
  have bd := hb s1 us I1.kIn (by rw [List.append_nil, ← r.length]; exact hl)
  rw [List.append_nil] at bd
  have q' := q s1 X.stack fun F g fr js cp hg' hcd => ⟨hg', hcd, cells_of I1 (cp I1.ok), fun y c hc hb' => by
    have hx := (cp I1.ok).sub y c hc
    rcases List.mem_cons.mp (I1.stkSub c hb') with z | z
    · exact I1.cne y c hx z
    · obtain ⟨_, o, ho, _⟩ := I1.ok.funs.mem z
      exact absurd (Nat.lt_of_lt_of_le (Heap.lt_size ho) (I1.ok.cab y c (hfn y) hx)) (Nat.lt_irrefl _)⟩
  refine wpAny_call (codeAny_mono (R X.A X.stack s1 H1 us vs Q hr I1.env0 bd r hl q') fun r s' hq => ?_)
  cases r with
  | error e => exact hq.elim
  | ok fl =>
    cases fl with
    | ret u => exact I1.after hq
    | next => exact False.elim hq
    | brk => exact False.elim hq
    | cont => exact False.elim hq
/-- g(e, ..), g a name that holds a function that came into the def -/
def tCallH (F : NF) (i : Nat) (f : Addr) (ws : List (Option V)) (sp : List (Option V) → Sp) (t : TA) : TE := fun σ H Q => σ[i]? = some (some (.ref f)) ∧ H f = some (FnO f F) ∧
  t σ H fun vs H1 => H1 f = some (FnO f F) ∧ H1 F.c = some (CodeO F.c F.qual) ∧ sp ws vs H1 Q E0
theorem pe_callH {sp : List (Option V) → Sp} (Fn : NOk X.prog X.w X.K X.mg X.base CX0 k f F ps fr sp) (C : CloAt X.outer X.s_0 X.H_0 F f fr ws) (hex : X.ex = []) (hr : Room j X.A) (hk : k ≤ j) (hN : X.N[i]? = some x) (hv : Vis X.env.scope x) (ha : PA X (e :: es) t)
    (hd : (x == ("__debug__" : Str)) = false := by decide) (hcd : (x == ("__classdict__" : Str)) = false := by decide)
    (he : starEach (e :: es) X.env = (false, eval e X.env) :: starEach es X.env := by rfl) (hpl : (backTo pos (starEach es X.env)).any (·.1) = false := by rfl) :
    PE X (.Call (.Name x p) (e :: es) [] pos) (tCallH F i f ws sp t) := by
  refine ⟨fun pins s σ H Q I h => ?_⟩
  obtain ⟨hs, hf, ht⟩ := h
  refine wpAny_Call_Name_kw (thn ((pe_var (pos := p) hN hv hd hcd).run pins s σ H (fun v H1 => v = .ref f ∧ H1 = H) I ⟨.ref f, hs, rfl, rfl⟩) fun u s1 ⟨v, H1, I1, r1, q1⟩ => ?_)
  obtain ⟨ev, eH⟩ := q1
  subst ev
  rw [eH] at I1
  obtain rfl : u = Value.ref f := r1
  refine PySem.W.callWith_F (first := []) (fnAt_of I1 hf) (thn (ha.run pos pins s1 σ H _ I1 ht) fun us s2 ⟨vs, H2, I2, r, h1, h2, q⟩ => ⟨fnAt_of I2 h1, ?_⟩) he hpl
  show wpAny _ _ (call (.ref f) us) _ _ _
  have C2 := C.cells.later C.nf (fun y c _ z => by rw [hex] at z; exact List.not_mem_nil z) I2
  refine wpAny_call (codeAny_mono (Fn.run X.A X.stack s2 H2 us vs ws Q E0 (hr.mono hk) I2.env0 h1 h2 C2 r q) fun r s' hq => ?_)
  cases r with
  | error e => exact pass0 pins σ H2 s2 e s' I2 hq
  | ok fl =>
    cases fl with
    | ret u => exact I2.after hq
    | next => exact False.elim hq
    | brk => exact False.elim hq
    | cont => exact False.elim hq
end
/-! ### first words: words are told from their end, c :: u is u and then c -/
def Sl : List Nat → List Nat → Prop
  | [], [] => False
  | [], _ :: _ => True
  | _ :: _, [] => False
  | c :: u, d :: w => Sl u w ∨ (u = w ∧ c < d)
theorem sl_irr : ∀ u : List Nat, ¬ Sl u u
  | [], h => h
  | c :: u, h => by
    rcases h with h | ⟨_, h⟩
    · exact sl_irr u h
    · omega
theorem sl_trans : ∀ {u v w : List Nat}, Sl u v → Sl v w → Sl u w
  | [], [], _, h, _ => h.elim
  | [], _ :: _, [], _, h => h.elim
  | [], _ :: _, _ :: _, _, _ => trivial
  | _ :: _, [], _, h, _ => h.elim
  | _ :: _, _ :: _, [], _, h => h.elim
  | c :: u, d :: v, e :: w, h, g => by
    rcases h with h | ⟨h, h2⟩
    · rcases g with g | ⟨g, _⟩
      · exact .inl (sl_trans h g)
      · exact .inl (g ▸ h)
    · rcases g with g | ⟨g, g2⟩
      · exact .inl (h ▸ g)
      · exact .inr ⟨h.trans g, by omega⟩
theorem sl_tri : ∀ u w : List Nat, Sl u w ∨ u = w ∨ Sl w u
  | [], [] => .inr (.inl rfl)
  | [], _ :: _ => .inl trivial
  | _ :: _, [] => .inr (.inr trivial)
  | c :: u, d :: w => by
    rcases sl_tri u w with h | h | h
    · exact .inl (.inl h)
    · subst h
      rcases Nat.lt_trichotomy c d with l | l | l
      · exact .inl (.inr ⟨rfl, l⟩)
      · subst l
        exact .inr (.inl rfl)
      · exact .inr (.inr (.inr ⟨rfl, l⟩))
    · exact .inr (.inr (.inl h))
theorem sl_cons : ∀ (u : List Nat) (d : Nat), Sl u (d :: u)
  | [], _ => trivial
  | x :: u, _ => .inl (sl_cons u x)
def Wl (L : Nat) (u : List Nat) : Prop := ∀ c ∈ u, c < L
def First (p : List Nat → Prop) (L : Nat) : Option (List Nat) → Prop
  | none => ∀ u, Wl L u → ¬ p u
  | some u => Wl L u ∧ p u ∧ ∀ u', Wl L u' → Sl u' u → ¬ p u'
theorem first_eq {p : List Nat → Prop} {L : Nat} : ∀ {o o' : Option (List Nat)}, First p L o → First p L o' → o = o'
  | none, none, _, _ => rfl
  | none, some u, h, g => absurd g.2.1 (h u g.1)
  | some u, none, h, g => absurd h.2.1 (g u h.1)
  | some u, some w, h, g => by
    rcases sl_tri u w with q | q | q
    · exact absurd h.2.1 (g.2.2 u h.1 q)
    · rw [q]
    · exact absurd g.2.1 (h.2.2 w g.1 q)
theorem First.imp {p q : List Nat → Prop} {L : Nat} (e : ∀ u, Wl L u → (p u ↔ q u)) : ∀ {o : Option (List Nat)}, First p L o → First q L o
  | none, h => fun u hu z => h u hu ((e u hu).mpr z)
  | some u, h => ⟨h.1, (e u h.1).mp h.2.1, fun w hw s z => h.2.2 w hw s ((e w hw).mpr z)⟩
def walkr (gt : Nat → Nat → Nat) (v0 : Nat) : List Nat → Nat
  | [] => v0
  | c :: u => gt (walkr gt v0 u) c
/-- a search layer by layer: nodes with their words, in the order in which they came; p is looked from, by its letter c -/
structure Bfs (gt : Nat → Nat → Nat) (wt : Nat → Bool) (L v0 : Nat) (nodes : List Nat) (reps : List (List Nat)) (p c : Nat) : Prop where
  ln : nodes.length = reps.length
  nd : nodes.Nodup
  zn : nodes[0]? = some v0
  zr : reps[0]? = some []
  wk : ∀ (i v : Nat) (r : List Nat), nodes[i]? = some v → reps[i]? = some r → walkr gt v0 r = v ∧ Wl L r
  no : ∀ v ∈ nodes, wt v = false
  srt : reps.Pairwise Sl
  org : ∀ (j : Nat) (r : List Nat), 1 ≤ j → reps[j]? = some r → ∃ (i c' : Nat) (r' : List Nat), reps[i]? = some r' ∧ r = c' :: r' ∧ c' < L ∧ (i < p ∨ (i = p ∧ c' < c))
  cov : ∀ (i c' v : Nat) (r : List Nat), nodes[i]? = some v → reps[i]? = some r → c' < L → (i < p ∨ (i = p ∧ c' < c)) → ∃ (j : Nat) (r' : List Nat), nodes[j]? = some (gt v c') ∧ reps[j]? = some r' ∧ (Sl r' (c' :: r) ∨ r' = c' :: r)
section
variable {gt : Nat → Nat → Nat} {wt : Nat → Bool} {L v0 : Nat} {nodes : List Nat} {reps : List (List Nat)} {p c : Nat}
theorem bfs_start (h : wt v0 = false) : Bfs gt wt L v0 [v0] [[]] 0 0 where
  ln := rfl
  nd := List.nodup_cons.mpr ⟨List.not_mem_nil, List.nodup_nil⟩
  zn := rfl
  zr := rfl
  wk := fun i v r h1 h2 => by
    cases i with
    | zero =>
      cases h1
      cases h2
      exact ⟨rfl, fun c hc => absurd hc List.not_mem_nil⟩
    | succ i => cases h1
  no := fun v hv => by
    rw [List.mem_singleton.mp hv]
    exact h
  srt := List.pairwise_singleton _ _
  org := fun j r h1 h2 => by
    cases j with
    | zero => omega
    | succ j => cases h2
  cov := fun i c' v r _ _ _ h => by omega
theorem sl_at (h : reps.Pairwise Sl) {i j : Nat} {a b : List Nat} (hi : reps[i]? = some a) (hj : reps[j]? = some b) (l : i < j) : Sl a b := by
  have l1 := List.getElem?_eq_some_iff.mp hi
  have l2 := List.getElem?_eq_some_iff.mp hj
  have := List.pairwise_iff_getElem.mp h i j l1.1 l2.1 l
  rw [l1.2, l2.2] at this
  exact this
/-- what is there comes before what is found now -/
theorem Bfs.below (h : Bfs gt wt L v0 nodes reps p c) {rp : List Nat} (hp : reps[p]? = some rp) {j : Nat} {r : List Nat} (hj : reps[j]? = some r) : Sl r (c :: rp) := by
  by_cases z : j = 0
  · subst z
    rw [h.zr] at hj
    cases hj
    exact trivial
  · obtain ⟨i, c', r', h1, rfl, _, h3⟩ := h.org j r (by omega) hj
    rcases h3 with h3 | ⟨h3, h4⟩
    · exact .inl (sl_at h.srt h1 hp h3)
    · subst h3
      rw [hp] at h1
      cases h1
      exact .inr ⟨rfl, h4⟩
theorem Bfs.skip (h : Bfs gt wt L v0 nodes reps p c) {vp : Nat} (hv : nodes[p]? = some vp) (hc : c < L) (hin : gt vp c ∈ nodes) : Bfs gt wt L v0 nodes reps p (c + 1) where
  ln := h.ln
  nd := h.nd
  zn := h.zn
  zr := h.zr
  wk := h.wk
  no := h.no
  srt := h.srt
  org := fun j r h1 h2 => by
    obtain ⟨i, c', r', a1, a2, a3, a4⟩ := h.org j r h1 h2
    exact ⟨i, c', r', a1, a2, a3, by omega⟩
  cov := fun i c' v r h1 h2 h3 h4 => by
    by_cases z : i < p ∨ (i = p ∧ c' < c)
    · exact h.cov i c' v r h1 h2 h3 z
    · have e1 : i = p := by omega
      have e2 : c' = c := by omega
      subst e1
      subst e2
      rw [hv] at h1
      cases h1
      obtain ⟨j, hj⟩ := List.mem_iff_getElem?.mp hin
      have jl := (List.getElem?_eq_some_iff.mp hj).1
      have hr : reps[j]? = some (reps[j]'(by rw [← h.ln]; exact jl)) := List.getElem?_eq_getElem _
      exact ⟨j, _, hj, hr, .inl (h.below h2 hr)⟩
theorem Bfs.add (h : Bfs gt wt L v0 nodes reps p c) {vp : Nat} {rp : List Nat} (hv : nodes[p]? = some vp) (hp : reps[p]? = some rp) (hc : c < L) (hn : gt vp c ∉ nodes) (hw : wt (gt vp c) = false) : Bfs gt wt L v0 (nodes ++ [gt vp c]) (reps ++ [c :: rp]) p (c + 1) := by
  have pl := (List.getElem?_eq_some_iff.mp hp).1
  have ln := h.ln
  have low : ∀ {α : Type} {xs : List α} {x y : α} {i : Nat}, xs[i]? = some y → (xs ++ [x])[i]? = some y := fun {α xs x y i} e => by
    rw [List.getElem?_append_left (List.getElem?_eq_some_iff.mp e).1]
    exact e
  have snoc : ∀ {α : Type} {r : List α} {x y : α} {i : Nat}, (r ++ [x])[i]? = some y → r[i]? = some y ∨ (i = r.length ∧ y = x) := fun {α r x y i} h => by
    rcases Nat.lt_or_ge i r.length with l | l
    · rw [List.getElem?_append_left l] at h
      exact .inl h
    · have l2 := (List.getElem?_eq_some_iff.mp h).1
      rw [List.length_append, List.length_singleton] at l2
      rw [List.getElem?_append_right l, show i - r.length = 0 by omega] at h
      exact .inr ⟨by omega, (Option.some.inj h).symm⟩
  refine ⟨by rw [List.length_append, List.length_append, ln]; rfl, ?_, low h.zn, low h.zr, fun i v r h1 h2 => ?_, fun v hv' => ?_, ?_, fun j r h1 h2 => ?_, fun i c' v r h1 h2 h3 h4 => ?_⟩
  · rw [List.nodup_append]
    exact ⟨h.nd, List.nodup_cons.mpr ⟨List.not_mem_nil, List.nodup_nil⟩, fun x hx y hy e => hn (by rw [← List.mem_singleton.mp hy, ← e]; exact hx)⟩
  · rcases snoc h1 with a | ⟨a1, a2⟩
    · rcases snoc h2 with b | ⟨b1, _⟩
      · exact h.wk i v r a b
      · have := (List.getElem?_eq_some_iff.mp a).1
        omega
    · rcases snoc h2 with b | ⟨_, b2⟩
      · have := (List.getElem?_eq_some_iff.mp b).1
        omega
      · rw [a2, b2]
        obtain ⟨w1, w2⟩ := h.wk p vp rp hv hp
        exact ⟨by show gt (walkr gt v0 rp) c = gt vp c; rw [w1], fun d hd => (List.mem_cons.mp hd).elim (fun z => z ▸ hc) (w2 d)⟩
  · rcases List.mem_append.mp hv' with z | z
    · exact h.no v z
    · rw [List.mem_singleton.mp z]
      exact hw
  · refine List.pairwise_append.mpr ⟨h.srt, List.pairwise_singleton _ _, fun a ha b hb => ?_⟩
    rw [List.mem_singleton.mp hb]
    obtain ⟨j, hj⟩ := List.mem_iff_getElem?.mp ha
    exact h.below hp hj
  · rcases snoc h2 with b | ⟨_, b2⟩
    · obtain ⟨i, c', r', a1, a2, a3, a4⟩ := h.org j r h1 b
      exact ⟨i, c', r', low a1, a2, a3, by omega⟩
    · exact ⟨p, c, rp, low hp, b2, hc, by omega⟩
  · rcases snoc h1 with a | ⟨a1, a2⟩
    · rcases snoc h2 with b | ⟨b1, _⟩
      · by_cases z : i < p ∨ (i = p ∧ c' < c)
        · obtain ⟨j, r', e1, e2, e3⟩ := h.cov i c' v r a b h3 z
          exact ⟨j, r', low e1, low e2, e3⟩
        · have e1 : i = p := by omega
          have e2 : c' = c := by omega
          subst e1
          subst e2
          rw [hv] at a
          cases a
          rw [hp] at b
          cases b
          refine ⟨nodes.length, c' :: rp, ?_, ?_, .inr rfl⟩
          · rw [List.getElem?_append_right (Nat.le_refl _), Nat.sub_self]
            rfl
          · rw [List.getElem?_append_right (by omega), show nodes.length - reps.length = 0 by omega]
            rfl
      · have := (List.getElem?_eq_some_iff.mp a).1
        omega
    · omega
theorem Bfs.next (h : Bfs gt wt L v0 nodes reps p c) (hc : L ≤ c) : Bfs gt wt L v0 nodes reps (p + 1) 0 where
  ln := h.ln
  nd := h.nd
  zn := h.zn
  zr := h.zr
  wk := h.wk
  no := h.no
  srt := h.srt
  org := fun j r h1 h2 => by
    obtain ⟨i, c', r', a1, a2, a3, a4⟩ := h.org j r h1 h2
    exact ⟨i, c', r', a1, a2, a3, by omega⟩
  cov := fun i c' v r h1 h2 h3 h4 => h.cov i c' v r h1 h2 h3 (by omega)
/-- words that come before what is looked at are led to nodes that are there -/
theorem Bfs.all (h : Bfs gt wt L v0 nodes reps p c) {rp : List Nat} (hp : reps[p]? = some rp) : ∀ u, Wl L u → Sl u (c :: rp) → ∃ (j : Nat) (r : List Nat), nodes[j]? = some (walkr gt v0 u) ∧ reps[j]? = some r ∧ (Sl r u ∨ r = u)
  | [], _, _ => ⟨0, [], h.zn, h.zr, .inr rfl⟩
  | d :: u, hu, hs => by
    have hu' : Wl L u := fun x hx => hu x (List.mem_cons_of_mem _ hx)
    have hd : d < L := hu d List.mem_cons_self
    have su : Sl u (c :: rp) := by
      exact sl_trans (sl_cons u d) hs
    obtain ⟨j, r, h1, h2, h3⟩ := h.all hp u hu' su
    have jx : j < p ∨ (j = p ∧ d < c) := by
      rcases hs with hs | ⟨hs, hs2⟩
      · have rp_ : Sl r rp := by
          rcases h3 with h3 | h3
          · exact sl_trans h3 hs
          · rw [h3]
            exact hs
        rcases Nat.lt_trichotomy j p with l | l | l
        · exact .inl l
        · subst l
          rw [hp] at h2
          cases h2
          exact absurd rp_ (sl_irr _)
        · exact absurd (sl_trans rp_ (sl_at h.srt hp h2 l)) (sl_irr _)
      · rcases Nat.lt_trichotomy j p with l | l | l
        · exact .inl l
        · exact .inr ⟨l, hs2⟩
        · have a := sl_at h.srt hp h2 l
          rw [← hs] at a
          rcases h3 with h3 | h3
          · exact absurd (sl_trans a h3) (sl_irr _)
          · rw [h3] at a
            exact absurd a (sl_irr _)
    obtain ⟨j2, r2, e1, e2, e3⟩ := h.cov j d _ r h1 h2 hd jx
    refine ⟨j2, r2, e1, e2, ?_⟩
    have le : Sl (d :: r) (d :: u) ∨ d :: r = d :: u := by
      rcases h3 with h3 | h3
      · exact .inl (.inl h3)
      · exact .inr (by rw [h3])
    rcases e3 with e3 | e3
    · rcases le with le | le
      · exact .inl (sl_trans e3 le)
      · exact .inl (le ▸ e3)
    · rw [e3]
      exact le
/-- the first word -/
theorem Bfs.found (h : Bfs gt wt L v0 nodes reps p c) {vp : Nat} {rp : List Nat} (hv : nodes[p]? = some vp) (hp : reps[p]? = some rp) (hc : c < L) (hw : wt (gt vp c) = true) : First (fun u => wt (walkr gt v0 u) = true) L (some (c :: rp)) := by
  obtain ⟨w1, w2⟩ := h.wk p vp rp hv hp
  refine ⟨fun d hd => (List.mem_cons.mp hd).elim (fun z => z ▸ hc) (w2 d), ?_, fun u hu s z => ?_⟩
  · show wt (gt (walkr gt v0 rp) c) = true
    rw [w1]
    exact hw
  · obtain ⟨j, r, h1, _, _⟩ := h.all hp u hu s
    have z : wt (walkr gt v0 u) = true := z
    have := h.no _ (List.mem_of_getElem? h1)
    rw [this] at z
    cases z
/-- no word at all -/
theorem Bfs.none_ (h : Bfs gt wt L v0 nodes reps p 0) (hp : nodes.length ≤ p) : First (fun u => wt (walkr gt v0 u) = true) L none := fun u hu z => by
  have key : ∀ u, Wl L u → walkr gt v0 u ∈ nodes := by
    intro u
    induction u with
    | nil => exact fun _ => List.mem_of_getElem? h.zn
    | cons d u ih =>
      intro hu
      obtain ⟨j, hj⟩ := List.mem_iff_getElem?.mp (ih fun x hx => hu x (List.mem_cons_of_mem _ hx))
      have jl := (List.getElem?_eq_some_iff.mp hj).1
      obtain ⟨j2, _, e1, _, _⟩ := h.cov j d _ _ hj (List.getElem?_eq_getElem (show j < reps.length by rw [← h.ln]; exact jl)) (hu d List.mem_cons_self) (.inl (by omega))
      exact List.mem_of_getElem? e1
  have z : wt (walkr gt v0 u) = true := z
  have := h.no _ (key u hu)
  rw [this] at z
  cases z
theorem Bfs.len (h : Bfs gt wt L v0 nodes reps p c) : ∀ (j : Nat) (r : List Nat), reps[j]? = some r → r.length ≤ j := by
  intro j
  induction j using Nat.strongRecOn with
  | ind j ih =>
    intro r hr
    by_cases z : j = 0
    · subst z
      rw [h.zr] at hr
      cases hr
      exact Nat.le_refl _
    · obtain ⟨i, c', r', h1, rfl, _, _⟩ := h.org j r (by omega) hr
      have ij : i < j := by
        rcases Nat.lt_trichotomy i j with l | l | l
        · exact l
        · subst l
          rw [h1] at hr
          have := congrArg List.length (Option.some.inj hr)
          rw [List.length_cons] at this
          omega
        · exact absurd (sl_trans (sl_at h.srt hr h1 l) (sl_cons r' c')) (sl_irr _)
      have := ih i ij r' h1
      rw [List.length_cons]
      omega
end
/-! ### texts of letters -/
def mkS (cs : List Nat) : Str := ⟨cs.toArray⟩
theorem tl_mkS (cs : List Nat) : TL.tl (mkS cs) = cs := rfl
theorem mkS_tl (z : Str) : mkS (TL.tl z) = z := TL.ext_tl rfl
theorem mkS_len (cs : List Nat) : (mkS cs).length = cs.length := TL.len_tl _
theorem mkS_add (a b : List Nat) : mkS a ++ mkS b = mkS (a ++ b) := TL.ext_tl (by rw [TL.tl_append]; rfl)
def sgV (c : Nat) : V := .str ⟨#[c]⟩
def rJoin (K : PySem.W.Frag) : V → List V → Hp → VK → Prop := fun x xs H Q => ∃ a p, ∃ ys : List Str, x = .str a ∧ xs = [.ref p] ∧ (SqL K H p (ys.map V.str) ∨ SqT K H p (ys.map V.str)) ∧ (ys.map (·.length)).sum + ys.length * a.length ≤ 16777216 ∧ Q (.str (Txt.join a ys)) H
theorem join_sg (cs : List Nat) : Txt.join "" (cs.map fun c => (⟨#[c]⟩ : Str)) = mkS cs := by
  rw [TL.join_eq]
  refine TL.ext_tl ?_
  rw [TL.tl_join]
  have e : ∀ cs : List Nat, TL.joinL [] ((cs.map fun c => (⟨#[c]⟩ : Str)).map TL.tl) = cs := fun cs => by
    induction cs with
    | nil => rfl
    | cons c cs ih =>
      cases cs with
      | nil => rfl
      | cons e cs =>
        show [c] ++ ([] ++ TL.joinL [] (((e :: cs).map fun c => (⟨#[c]⟩ : Str)).map TL.tl)) = _
        rw [ih]
        rfl
  exact e cs
theorem sg_map (cs : List Nat) : cs.map sgV = (cs.map fun c => (⟨#[c]⟩ : Str)).map V.str := by
  rw [List.map_map]
  rfl
theorem sg_sum (cs : List Nat) : ((cs.map fun c => (⟨#[c]⟩ : Str)).map (·.length)).sum = cs.length := by
  induction cs with
  | nil => rfl
  | cons c cs ih =>
    rw [List.map_cons, List.map_cons, List.sum_cons, ih, List.length_cons, Nat.add_comm]
    rfl
/-- the text of a word that is told from its end -/
def txR (u : List Nat) : Str := mkS (u.reverse.map (97 + ·))
def txO : Option (List Nat) → V
  | none => .non
  | some u => .str (txR u)
/-- a list that hides the heap -/
def tLstA (t : TA) : TE := fun σ H Q => t σ H fun xs H1 => xs.length ≤ sizeLine ∧ ∀ p H', Same H1 H' → H1 p = none → p ≠ sysModules → H' p = some (.lst xs) → Q (.ref p) H'
section
variable {X : Cx}
theorem pe_lstA {es : List Expr} {t : TA} {pos : Pos} (ht : PA X es t) : PE X (.List es pos) (tLstA t) := by
  refine ⟨fun pins s σ H Q I h => wpAny_List_spliced (thn (ht.run pos pins s σ H _ I h) ?_)⟩
  rintro us s1 ⟨xs, H1, I1, r, hz, q⟩
  have hl := r.length
  have np := I1.hok.fresh (Nat.le_refl s1.heap.objs.size)
  exact ⟨by rw [← hl]; exact hz, .ref s1.heap.objs.size, _, I1.laid (o := .lst xs) (t' := s1.toks) (fun b u e => Heap.get?_push_of_some _ e) (Nat.le_refl _) ⟨hz, us, 0, r, Heap.get?_push_size _ rfl⟩, rfl, q _ _ (same_new np) np (Nat.ne_of_gt I1.big) upd_same⟩
end
/-! ### the word of a node that was come to -/
theorem small6 {n : Nat} (h : n ≤ 5000000) : n < sizeLine := Nat.lt_of_le_of_lt h (by decide)
def cKv (nodes : List Nat) (pas : List V) : List (Key × V) := (nodes.zip pas).map fun p => (.inl (p.1 : Int), p.2)
theorem cKv_len {nodes : List Nat} {pas : List V} (h : pas.length = nodes.length) : (cKv nodes pas).length = nodes.length := by
  unfold cKv
  rw [List.length_map, List.length_zip]
  omega
theorem cKv_mem {nodes : List Nat} {pas : List V} {k : Nat} (h : k ∉ nodes) : ∀ x ∈ cKv nodes pas, ¬ (decide (x.1 = (.inl (k : Int) : Key)) = true) := fun x hx e => by
  obtain ⟨p, hp, rfl⟩ := List.mem_map.mp hx
  have := opI _ _ (of_decide_eq_true e)
  exact h (this ▸ (List.of_mem_zip hp).1)
theorem cKv_at : ∀ {nodes : List Nat} {pas : List V} {j k : Nat} {x : V}, nodes.Nodup → nodes[j]? = some k → pas[j]? = some x → valV (cKv nodes pas) (.inl (k : Int)) = some x
  | [], _, _, _, _, _, h, _ => by cases h
  | _ :: _, [], _, _, _, _, _, h => by cases h
  | n :: nodes, p :: pas, 0, k, x, _, h, g => by
    cases h
    cases g
    unfold valV cKv
    rw [List.zip_cons_cons, List.map_cons, List.find?_cons_of_pos (by exact decide_eq_true rfl)]
    rfl
  | n :: nodes, p :: pas, j + 1, k, x, nd, h, g => by
    obtain ⟨n1, n2⟩ := List.nodup_cons.mp nd
    have h' : nodes[j]? = some k := h
    have ne : n ≠ k := fun e => n1 (e ▸ List.mem_of_getElem? h')
    have ih := cKv_at (pas := pas) n2 h' g
    unfold valV cKv at ih ⊢
    rw [List.zip_cons_cons, List.map_cons, List.find?_cons_of_neg (by rw [decide_eq_true_eq]; exact fun z => ne (opI _ _ z))]
    exact ih
theorem cKv_no {nodes : List Nat} {pas : List V} {k : Nat} (h : k ∉ nodes) : valV (cKv nodes pas) (.inl (k : Int)) = none := by
  unfold valV
  rw [List.find?_eq_none.mpr (cKv_mem h)]
  rfl
theorem cKv_put {nodes : List Nat} {pas : List V} {k : Nat} {x : V} (l : pas.length = nodes.length) (h : k ∉ nodes) : putK (cKv nodes pas) (.inl (k : Int)) x = cKv (nodes ++ [k]) (pas ++ [x]) := by
  unfold putK
  rw [if_neg (fun z => by
    obtain ⟨y, hy, e⟩ := List.any_eq_true.mp z
    exact cKv_mem h y hy e)]
  unfold cKv
  rw [List.zip_append l.symm, List.map_append]
  rfl
/-- what was come to, as it lies -/
structure CameAt (H : Hp) (d : Addr) (nodes : List Nat) (reps : List (List Nat)) (pas : List V) : Prop where
  hd : H d = some (.dK (cKv nodes pas))
  ln : pas.length = nodes.length
  at_ : ∀ (j v : Nat) (r : List Nat), nodes[j]? = some v → reps[j]? = some r → (r = [] ∧ pas[j]? = some .non) ∨ ∃ (a : Addr) (i u c : Nat) (r' : List Nat), pas[j]? = some (.ref a) ∧ H a = some (.tup [.int (u : Int), .int (c : Int)]) ∧ nodes[i]? = some u ∧ reps[i]? = some r' ∧ r = c :: r'
theorem CameAt.same {H H' : Hp} {d : Addr} {nodes : List Nat} {reps : List (List Nat)} {pas : List V} (h : CameAt H d nodes reps pas) (s : Same H H') : CameAt H' d nodes reps pas :=
  ⟨s _ _ h.hd, h.ln, fun j v r h1 h2 => (h.at_ j v r h1 h2).imp id fun ⟨a, i, u, c, r', e1, e2, e3⟩ => ⟨a, i, u, c, r', e1, s _ _ e2, e3⟩⟩
theorem abc_at {c : Nat} (h : c < 3) : atI ("abc" : Str).cps.toList (c : Int) = some (97 + c) := by
  have : c = 0 ∨ c = 1 ∨ c = 2 := by omega
  rcases this with rfl | rfl | rfl <;> rfl

section
variable {P : Program} {w : World} {K : PySem.W.Frag} {mg : Str → Option Value} {base : Heap}
theorem scSpelled : FnScope ["came", "node", "signs", "letter"] ["came", "node"] (defScope sSpelled) := ⟨rfl, rfl, rfl, by decide +kernel, rfl, by decide +kernel, by decide +kernel⟩
def spSpelled : Sp := fun vs H Q _ => ∃ (L : Nat) (dd : Addr) (nodes : List Nat) (reps : List (List Nat)) (pas : List V) (j v : Nat) (r : List Nat), vs = [.ref dd, .int (v : Int)] ∧ L ≤ 3 ∧ CameAt H dd nodes reps pas ∧ nodes.Nodup ∧ nodes[j]? = some v ∧ reps[j]? = some r ∧ Wl L r ∧ r.length ≤ 1000000 ∧ nodes.length ≤ 1000000 ∧
  ∀ H', Same H H' → Q (.str (txR r)) H'
theorem ok_spelled {f : Addr} {fd : FuncData} (F : Fun K "spelled" "spelled" sSpelled f fd) (T : Mg mg) : FnOk P w K mg base CX0 1 f fd ["came", "node"] spSpelled := by
  refine F.ok scSpelled (fun vs H Q E h => ?_) (fun cdv A outer s H vs Q E hr h => ?_)
  · obtain ⟨L, dd, nodes, reps, pas, j, v, r, rfl, _⟩ := h
    rfl
  · obtain ⟨L, dd, nodes, reps, pas, j, v, r, rfl, L3, CA, nd, hv, hrj, wl, rl, n1, k⟩ := h
    obtain ⟨tt, le⟩ := T.le
    have hu1 := hu_of hr
    refine ⟨_, (pss_cons (ps_set (i := 2) scSpelled.nd rfl (.inl rfl) (pe_lst pa_nil))
      (pss_cons (ps_while PassesOwn.never (pt_cmp (pc_notN (pe_dget hu1 (pv 0) (pv 1) (fun _ _ => rfl)))) (pss_cons (ps_asg (pe_dget hu1 (pv 0) (pv 1) (fun _ _ => rfl)) (pg_tup rfl (pgs_cons (pg_name (i := 1) scSpelled.nd rfl (.inl rfl)) (pgs_cons (pg_name (i := 3) scSpelled.nd rfl (.inl rfl)) pgs_nil))))
      (pss_one (ps_expr (pe_bm PySem.F.plainAttrs_list PySem.F.slot_list_append PySem.F.type_list_append mt_append (pv 2) (pa_cons (pe_ix ix_str (pe_glob (v := .str "abc") (by rfl) le ⟨_, rfl⟩) (pv 3) (fun _ _ => rfl)) pa_nil))))))
      (pss_one (ps_ret (pe_bm (r := rJoin K) PySem.F.plainAttrs_str PySem.F.slot_str_join PySem.F.type_str_join mt_join pe_str (pa_cons (pe_revL (pv 2)) pa_nil)))))), ?_⟩
    refine ⟨by show 0 ≤ sizeLine; decide, fun S nS => ?_⟩
    have s1 := same_new (o := .lst []) nS
    refine while_by (fun σ H' => ∃ (i u : Nat) (ri pre : List Nat) (y3 : Option V), σ = [some (.ref dd), some (.int (u : Int)), some (.ref S), y3] ∧ Same H H' ∧ H' S = some (.lst (pre.map fun c => sgV (97 + c))) ∧ nodes[i]? = some u ∧ reps[i]? = some ri ∧ r = pre ++ ri)
      (fun (_ : List (Option V)) (H' : Hp) => match H' S with
        | some (.lst xs) => 1000001 - xs.length
        | _ => 0) ⟨j, v, r, [], none, rfl, s1, upd_same, hv, hrj, rfl⟩ ?_ ?_
    · rintro σ H1 ⟨i, u, ri, pre, y3, rfl, sm, hS, hu, hri, er⟩
      have CA1 := CA.same sm
      rcases CA1.at_ i u ri hu hri with ⟨z, hp⟩ | ⟨a, i', u', c, r', hp, ha, hu', hr', z⟩
      · have dg : DGet H1 dd (.int (u : Int)) (some .non) := .inl ⟨cKv nodes pas, .inl (u : Int), .inl CA1.hd, rfl, (cKv_at nd hu hp).symm⟩
        refine ⟨_, rfl, _, rfl, dd, .non, rfl, dg, _, rfl, ?_⟩
        subst z
        rw [List.append_nil] at er
        subst er
        refine ⟨rfl, _, rfl, S, _, rfl, SqL.of hS, fun q nq => ?_⟩
        have em : (r.map fun c => sgV (97 + c)).reverse = (((r.reverse.map (97 + ·)).map fun c => (⟨#[c]⟩ : Str))).map V.str := by
          rw [← sg_map, List.map_map, ← List.map_reverse]
          rfl
        rw [em]
        refine ⟨"", q, (r.reverse.map (97 + ·)).map fun c => (⟨#[c]⟩ : Str), rfl, rfl, .inl (SqL.of upd_same), ?_, ?_⟩
        · rw [sg_sum, List.length_map, List.length_reverse, List.length_map, List.length_map, List.length_reverse, show ("" : Str).length = 0 from rfl]
          omega
        · rw [join_sg]
          exact k _ (sm.trans (same_new nq))
      · have dg : DGet H1 dd (.int (u : Int)) (some (.ref a)) := .inl ⟨cKv nodes pas, .inl (u : Int), .inl CA1.hd, rfl, (cKv_at nd hu hp).symm⟩
        refine ⟨_, rfl, _, rfl, dd, .ref a, rfl, dg, _, rfl, ?_⟩
        subst z
        have hc : c < L := wl c (by rw [er]; exact List.mem_append.mpr (.inr List.mem_cons_self))
        have pl : pre.length < r.length := by
          rw [er, List.length_append, List.length_cons]
          omega
        refine ⟨_, rfl, _, rfl, dd, .ref a, rfl, dg, a, _, rfl, SqT.of ha, rfl, _, _, rfl, _, _, rfl, rfl, ?_⟩
        refine ⟨_, rfl, .inl ⟨rfl, _, SqL.of hS⟩, _, rfl, "abc", (c : Int), 97 + c, rfl, rfl, by decide, abc_at (by omega), S, _, _, rfl, rfl, hS, small6 (by rw [List.length_map]; omega), ⟨i', u', r', pre ++ [c], _, rfl, fun b o e => ?_, by rw [upd_same, List.map_append]; rfl, hu', hr', by rw [er, List.append_assoc]; rfl⟩, ?_⟩
        · rw [upd_ne (ne_of_none e nS)]
          exact sm _ _ e
        · rw [upd_same, hS]
          show 1000001 - (pre.map (fun c => sgV (97 + c)) ++ [_]).length < 1000001 - (pre.map fun c => sgV (97 + c)).length
          rw [List.length_append, List.length_map, List.length_singleton]
          omega
    · rintro σ H1 Q1 Q2 hQ ⟨x, e1, y, e2, p, ys, e3, e4, b, e5, q⟩
      exact ⟨x, e1, y, e2, p, ys, e3, e4, b, e5, hQ _ _ q⟩
end
/-! ### the first word, layer by layer -/
theorem CameAt.wr {H : Hp} {d p : Addr} {nodes : List Nat} {reps : List (List Nat)} {pas : List V} {xs : List V} {o : HO} (h : CameAt H d nodes reps pas) (hp : H p = some (.lst xs)) : CameAt (upd H p o) d nodes reps pas := by
  refine ⟨?_, h.ln, fun j v r h1 h2 => (h.at_ j v r h1 h2).imp id fun ⟨a, i, u, c, r', e1, e2, e3⟩ => ⟨a, i, u, c, r', e1, ?_, e3⟩⟩
  · rw [upd_ne (fun z => by rw [← z, h.hd] at hp; cases hp)]
    exact h.hd
  · rw [upd_ne (fun z => by rw [← z, e2] at hp; cases hp)]
    exact e2
/-- one more that was come to -/
theorem CameAt.add {H : Hp} {d a : Addr} {nodes : List Nat} {reps : List (List Nat)} {pas : List V} {v i u c : Nat} {r' : List Nat} (h : CameAt H d nodes reps pas) (lr : nodes.length = reps.length) (ha : H a = some (.tup [.int (u : Int), .int (c : Int)])) (hu : nodes[i]? = some u) (hr : reps[i]? = some r') : CameAt (upd H d (.dK (cKv (nodes ++ [v]) (pas ++ [.ref a])))) d (nodes ++ [v]) (reps ++ [c :: r']) (pas ++ [.ref a]) := by
  have ln := h.ln
  have low : ∀ {α : Type} {xs : List α} {x y : α} {i : Nat}, xs[i]? = some y → (xs ++ [x])[i]? = some y := fun {α xs x y i} e => by
    rw [List.getElem?_append_left (List.getElem?_eq_some_iff.mp e).1]
    exact e
  have tup : ∀ {b : Addr} {xs : List V}, H b = some (.tup xs) → (upd H d (.dK (cKv (nodes ++ [v]) (pas ++ [.ref a])))) b = some (.tup xs) := fun {b xs} e => by
    rw [upd_ne (fun z => by rw [z, h.hd] at e; cases e)]
    exact e
  refine ⟨upd_same, by rw [List.length_append, List.length_append, ln]; rfl, fun j v' r h1 h2 => ?_⟩
  rcases Nat.lt_or_ge j nodes.length with l | l
  · rw [List.getElem?_append_left l] at h1
    rw [List.getElem?_append_left (by omega)] at h2
    rcases h.at_ j v' r h1 h2 with ⟨e1, e2⟩ | ⟨b, i', u', c', r2, e1, e2, e3, e4, e5⟩
    · exact .inl ⟨e1, low e2⟩
    · exact .inr ⟨b, i', u', c', r2, low e1, tup e2, low e3, low e4, e5⟩
  · have l2 := (List.getElem?_eq_some_iff.mp h1).1
    rw [List.length_append, List.length_singleton] at l2
    have ej : j = nodes.length := by omega
    rw [List.getElem?_append_right (by omega), show j - reps.length = 0 by omega] at h2
    refine .inr ⟨a, i, u, c, r', ?_, tup ha, low hu, low hr, (Option.some.inj h2).symm⟩
    rw [List.getElem?_append_right (by omega), show j - pas.length = 0 by omega]
    rfl

section
open NdefX LamX
variable {P : Program} {w : World} {K : PySem.W.Frag} {mg : Str → Option Value} {base : Heap}
theorem scFirst : FnScope ["start", "goes", "wanted", "came", "edge", "further", "node", "letter", "target"] ["start", "goes", "wanted"] (defScope sFirst) := ⟨rfl, rfl, rfl, by decide +kernel, rfl, by decide +kernel, by decide +kernel⟩
def gT (g : Nat → List Nat) (v c : Nat) : Nat := (g v).getD c 0
def spGoes (G : List (Option V) → Hp → Prop) (n : Nat) (g : Nat → List Nat) : List (Option V) → Sp := fun ws vs H Q _ => G ws H ∧ ∃ v : Nat, vs = [.int (v : Int)] ∧ v < n ∧ ∀ H' l, Same H H' → H l = none → H' l = some (.lst ((g v).map natV)) → Q (.ref l) H'
def spWant (G : List (Option V) → Hp → Prop) (n : Nat) (wt : Nat → Bool) : List (Option V) → Sp := fun ws vs H Q _ => G ws H ∧ ∃ v : Nat, vs = [.int (v : Int)] ∧ v < n ∧ ∀ H', Same H H' → Q (.bl (wt v)) H'
def spFirst (P : Program) (w : World) (K : PySem.W.Frag) (mg : Str → Option Value) (base : Heap) : Shared → List Env → Sp := fun s outer vs H Q _ => ∃ (n L : Nat) (g : Nat → List Nat) (wt : Nat → Bool) (fg fw : Addr) (Fg Fw : NF) (pg pw frg frw : List Str) (wsg wsw : List (Option V)) (Gg Gw : List (Option V) → Hp → Prop) (v0 : Nat), vs = [.int (v0 : Int), .ref fg, .ref fw] ∧
  CloAt outer s H Fg fg frg wsg ∧ CloAt outer s H Fw fw frw wsw ∧ NOk P w K mg base CX0 1 fg Fg pg frg (spGoes Gg n g) ∧ NOk P w K mg base CX0 1 fw Fw pw frw (spWant Gw n wt) ∧
  (∀ H', Same H H' → Gg wsg H' ∧ Gw wsw H') ∧ v0 < n ∧ (∀ v, v < n → (g v).length = L ∧ ∀ t ∈ g v, t < n) ∧ L ≤ 3 ∧ n ≤ 200000 ∧
  ∀ H' o, Same H H' → First (fun u => wt (walkr (gT g) v0 u) = true) L o → Q (txO o) H'
theorem ok_first {f fSP : Addr} {fd fdSP : FuncData} (F : Fun K "first_word" "first_word" sFirst f fd)
    (SP : FnOk P w K mg base CX0 1 fSP fdSP ["came", "node"] spSpelled) (FSP : Fun K "spelled" "spelled" sSpelled fSP fdSP) (bSP : Binds K fdSP ["came", "node"] []) (gSP : mg "spelled" = some (.ref fSP)) (T : Mg mg) : CRun P w K mg base 2 f fd ["start", "goes", "wanted"] (spFirst P w K mg base) := by
  refine crun F scFirst (fun cdv A outer s H vs Q hr h => ?_)
  obtain ⟨n, L, g, wt, fg, fw, Fg, Fw, pg, pw, frg, frw, wsg, wsw, Gg, Gw, v0, rfl, CG, CW, FG, FW, stb, v0n, gw, L3, n2, k⟩ := h
  have hu1 := hu_of hr
  refine ⟨_, (pss_cons (ps_if (pt_val (pe_callH FW CW rfl hr (by decide) (i := 2) (by rfl) (.inl (by rfl)) (pa_cons (pv 0) pa_nil))) (pss_one (ps_ret pe_str)) pss_nil)
      (pss_cons (ps_set (i := 3) scFirst.nd rfl (.inl rfl) (pe_disp (pps_cons (pv 0) pe_non pps_nil) (by rfl) (by rfl) (fun z => by cases z) (by decide)))
      (pss_cons (ps_set (i := 4) scFirst.nd rfl (.inl rfl) (pe_lst (pa_cons (pv 0) pa_nil)))
      (pss_cons (ps_while PassesOwn.never (pt_lstT (pv 4)) (pss_cons (ps_set (i := 5) scFirst.nd rfl (.inl rfl) (pe_lst pa_nil))
      (pss_cons (ps_for PassesOwn.never rfl (pi_list (pv 4)) (pg_name (i := 6) scFirst.nd rfl (.inl rfl)) (pss_one (ps_for PassesOwn.never rfl (pi_enum (by rfl) T.enum (pa_cons (pe_callH FG CG rfl hr (by decide) (i := 1) (by rfl) (.inl (by rfl)) (pa_cons (pv 6) pa_nil)) pa_nil)) (pg_tup rfl (pgs_cons (pg_name (i := 7) scFirst.nd rfl (.inl rfl)) (pgs_cons (pg_name (i := 8) scFirst.nd rfl (.inl rfl)) pgs_nil))) (pss_cons (ps_if (PW.pt (pw_or (pt_cmp (pc_isN (pv 8))) (pw_or1 (pt_cmp (pc_din hu1 (pv 8) (pv 3)))))) (pss_one ps_continue) pss_nil)
      (pss_cons (ps_asg (pe_tup (pa_cons (pv 6) (pa_cons (pv 7) pa_nil))) (pg_sub (pv 3) (pv 8) (set_dict hu1)))
      (pss_cons (ps_if (pt_val (pe_callH FW CW rfl hr (by decide) (i := 2) (by rfl) (.inl (by rfl)) (pa_cons (pv 8) pa_nil))) (pss_one (ps_ret (pe_call SP (hr.mono (by decide)) (by rfl) gSP FSP.kp bSP .nil pass0 (pa_cons (pv 3) (pa_cons (pv 8) pa_nil))))) pss_nil)
      (pss_one (ps_expr (pe_bm PySem.F.plainAttrs_list PySem.F.slot_list_append PySem.F.type_list_append mt_append (pv 5) (pa_cons (pv 8) pa_nil))))))))))
      (pss_one (ps_set (i := 4) scFirst.nd rfl (.inl rfl) (pv 5))))))
      (pss_one (ps_ret pe_non)))))), ?_⟩
  refine ⟨rfl, CW.fn, _, rfl, CW.fn, CW.cd, (stb H (Same.refl _)).2, v0, rfl, v0n, fun H1 s1 => ⟨_, rfl, ?_⟩⟩
  cases hw0 : wt v0 with
  | true =>
    have e : V.str "" = txO (some []) := by decide +kernel
    rw [e]
    refine k H1 (some []) s1 ⟨fun c hc => absurd hc List.not_mem_nil, hw0, fun u _ z => ?_⟩
    cases u with
    | nil => exact z.elim
    | cons c u => exact z.elim
  | false =>
    intro dn hdn
    refine ⟨_, rfl, upd_same, [(.inl (v0 : Int), .non)], rfl, by show 1 ≤ 15; decide, ?_⟩
    rw [upd_upd]
    have s2 := s1.trans (same_new (o := .dK (mergeK [] [(.inl (v0 : Int), V.non)])) hdn)
    have d0 : H dn = none := s1.free hdn
    have CA0 : CameAt (upd H1 dn (.dK (mergeK [] [(.inl (v0 : Int), V.non)]))) dn [v0] [[]] [.non] := ⟨upd_same, rfl, fun j v r h1 h2 => by
      cases j with
      | zero =>
        cases h2
        exact .inl ⟨rfl, rfl⟩
      | succ j => cases h1⟩
    clear hdn
    generalize upd H1 dn (.dK (mergeK [] [(.inl (v0 : Int), V.non)])) = H2 at *
    refine ⟨_, rfl, by show 1 ≤ sizeLine; decide, fun e0 he0 => ?_⟩
    have s3 := same_new (o := .lst [.int (v0 : Int)]) he0
    have CA1 := CA0.same s3
    have e00 : H e0 = none := s2.free he0
    have he1 : (upd H2 e0 (.lst [.int (v0 : Int)])) e0 = some (.lst (([v0].drop 0).map natV)) := upd_same
    have s03 := s2.trans s3
    clear he0 s3 CA0
    generalize upd H2 e0 (.lst [.int (v0 : Int)]) = H3 at *
    refine while_by (fun σ H' => ∃ (ea p : Nat) (nodes : List Nat) (reps : List (List Nat)) (pas : List V) (y5 y6 y7 y8 : Option V), σ = [some (.int (v0 : Int)), some (.ref fg), some (.ref fw), some (.ref dn), some (.ref ea), y5, y6, y7, y8] ∧ Same H H' ∧ H ea = none ∧ CameAt H' dn nodes reps pas ∧ H' ea = some (.lst ((nodes.drop p).map natV)) ∧ Bfs (gT g) wt L v0 nodes reps p 0 ∧ p ≤ nodes.length ∧ ∀ v ∈ nodes, v < n)
      (fun (σ : List (Option V)) (H' : Hp) => match σ[4]? with
        | some (some (V.ref ea)) => (match H' ea, H' dn with
          | some (.lst xs), some (.dK kvs) => n + 1 + xs.length - kvs.length
          | _, _ => 0)
        | _ => 0) ⟨e0, 0, [v0], [[]], [.non], _, _, _, _, rfl, s03, e00, CA1, he1, bfs_start hw0, Nat.zero_le _, fun v hv => by rw [List.mem_singleton.mp hv]; exact v0n⟩ ?_ ?_
    · rintro σ H4 ⟨ea, p, nodes, reps, pas, y5, y6, y7, y8, rfl, s4, ea0, CA4, he4, B4, pl, ln⟩
      have nl := nodup_len B4.nd ln
      refine ⟨_, rfl, ea, _, rfl, SqL.of he4, ?_⟩
      have ⟨q, hq⟩ : ∃ q, q = nodes.length - p := ⟨_, rfl⟩
      have cl4 := cKv_len CA4.ln
      by_cases hp : p = nodes.length
      · -- nothing more
        have he : nodes.drop p = [] := by rw [hp, List.drop_length]
        rw [he]
        exact k H4 none s4 (B4.none_ (by omega))
      · have pl2 : p < nodes.length := by omega
        have hne : (!(List.map natV (nodes.drop p)).isEmpty) = true := by
          have : (nodes.drop p).length ≠ 0 := by rw [List.length_drop]; omega
          cases hd : nodes.drop p with
          | nil => rw [hd] at this; exact absurd rfl this
          | cons a b => rfl
        rw [hne]
        refine ⟨by show 0 ≤ sizeLine; decide, fun fu hfu => ?_⟩
        have fu0 : H fu = none := s4.free hfu
        have nef : ea ≠ fu := fun z => by rw [← z, he4] at hfu; cases hfu
        have ndf : dn ≠ fu := fun z => by rw [← z, CA4.hd] at hfu; cases hfu
        have s5 := s4.trans (same_new (o := .lst []) hfu)
        have CA5 := CA4.same (same_new (o := .lst []) hfu)
        have he5 := same_new (o := .lst []) hfu _ _ he4
        have hf5 : (upd H4 fu (.lst [])) fu = some (.lst ((([] : List Nat)).map natV)) := upd_same
        clear hfu
        generalize upd H4 fu (.lst []) = H5 at *
        refine ⟨_, rfl, ea, rfl, ⟨_, SqL.of he5⟩, ?_⟩
        refine for_list (K := K) (a := ea) (xs := (nodes.drop p).map natV) (fun i σ H' => ∃ (ext : List Nat) (reps' : List (List Nat)) (pas' : List V) (y6 y7 y8 : Option V), σ = [some (.int (v0 : Int)), some (.ref fg), some (.ref fw), some (.ref dn), some (.ref ea), some (.ref fu), y6, y7, y8] ∧ Same H H' ∧ CameAt H' dn (nodes ++ ext) reps' pas' ∧ H' ea = some (.lst ((nodes.drop p).map natV)) ∧ H' fu = some (.lst (ext.map natV)) ∧ Bfs (gT g) wt L v0 (nodes ++ ext) reps' (p + i) 0 ∧ ∀ v ∈ nodes ++ ext, v < n)
          ⟨[], reps, pas, _, _, _, rfl, s5, by rw [List.append_nil]; exact CA5, he5, hf5, by rw [List.append_nil]; exact B4, by rw [List.append_nil]; exact ln⟩ (fun i σ H' _ p => by
            obtain ⟨_, _, _, _, _, _, _, _, _, he, _⟩ := p
            exact SqL.of he) ?_ ?_
        · rintro i x σ H6 hx ⟨ext, reps', pas', y6, y7, y8, rfl, s6, CA6, he6, hf6, B6, ln6⟩
          obtain ⟨u, hu, rfl⟩ := natV_of hx
          rw [List.getElem?_drop] at hu
          have hu6 : (nodes ++ ext)[p + i]? = some u := by
            rw [List.getElem?_append_left (List.getElem?_eq_some_iff.mp hu).1]
            exact hu
          have un := ln6 u (List.mem_of_getElem? hu6)
          obtain ⟨gl, gt_⟩ := gw u un
          have pil := (List.getElem?_eq_some_iff.mp hu6).1
          obtain ⟨ru, hru⟩ : ∃ ru, reps'[p + i]? = some ru := ⟨_, List.getElem?_eq_getElem (by rw [← B6.ln]; exact pil)⟩
          refine ⟨rfl, s6 _ _ CG.fn, _, rfl, s6 _ _ CG.fn, s6 _ _ CG.cd, (stb H6 s6).1, u, rfl, un, fun H7 gl_ s7 g0 hg7 => ?_⟩
          have s67 := s6.trans s7
          have g00 : H gl_ = none := s6.free g0
          have CA7 := CA6.same s7
          have he7 := s7 _ _ he6
          have hf7 := s7 _ _ hf6
          have ngf : gl_ ≠ fu := fun z => by rw [z, hf6] at g0; cases g0
          have ngd : gl_ ≠ dn := fun z => by rw [z, CA6.hd] at g0; cases g0
          refine ⟨gl_, _, rfl, SqL.of hg7, ?_⟩
          refine for_it (walk_enum (a := gl_) (xs := (g u).map natV)) (fun c σ H' => ∃ (ext : List Nat) (reps' : List (List Nat)) (pas' : List V) (y7 y8 : Option V), σ = [some (.int (v0 : Int)), some (.ref fg), some (.ref fw), some (.ref dn), some (.ref ea), some (.ref fu), some (.int (u : Int)), y7, y8] ∧ Same H H' ∧ CameAt H' dn (nodes ++ ext) reps' pas' ∧ H' ea = some (.lst ((nodes.drop p).map natV)) ∧ H' fu = some (.lst (ext.map natV)) ∧ Bfs (gT g) wt L v0 (nodes ++ ext) reps' (p + i) c ∧ (∀ v ∈ nodes ++ ext, v < n) ∧ H' gl_ = some (.lst ((g u).map natV)) ∧ (nodes ++ ext)[p + i]? = some u)
            ⟨ext, reps', pas', _, _, rfl, s67, CA7, he7, hf7, B6, ln6, hg7, hu6⟩ (fun c σ H' _ p => by
              obtain ⟨_, _, _, _, _, _, _, _, _, _, _, _, hg, _⟩ := p
              exact SqL.of hg) ?_ ?_
          · rintro c x σ H8 H9 hc ⟨ext, reps', pas', y7, y8, rfl, s8, CA8, he8, hf8, B8, ln8, hg8, hu8⟩ ⟨T2, va, vb, rfl, nT, rfl, ea_, eb⟩
            cases ea_
            obtain ⟨t, ht, rfl⟩ := natV_of eb
            rw [List.length_map, gl] at hc
            have tn := gt_ t (List.mem_of_getElem? ht)
            have et : gT g u c = t := by
              unfold gT
              rw [List.getD_eq_getElem?_getD, ht]
              rfl
            have sT := same_new (o := .tup [.int (c : Nat), .int (t : Int)]) nT
            have s9 := s8.trans sT
            have CA9 := CA8.same sT
            have he9 := sT _ _ he8
            have hf9 := sT _ _ hf8
            have hg9 := sT _ _ hg8
            have gT9 : (upd H8 T2 (.tup [.int (c : Nat), .int (t : Int)])) T2 = some (.tup [.int (c : Nat), .int (t : Int)]) := upd_same
            have pil8 := (List.getElem?_eq_some_iff.mp hu8).1
            obtain ⟨ru8, hru8⟩ : ∃ ru, reps'[p + i]? = some ru := ⟨_, List.getElem?_eq_getElem (by rw [← B8.ln]; exact pil8)⟩
            have nl8 := nodup_len B8.nd ln8
            clear nT sT
            generalize upd H8 T2 (.tup [.int (c : Nat), .int (t : Int)]) = H9 at *
            refine ⟨T2, _, rfl, SqT.of gT9, rfl, _, _, rfl, _, _, rfl, rfl, ?_⟩
            by_cases hin : t ∈ nodes ++ ext
            · obtain ⟨j, hj⟩ := List.mem_iff_getElem?.mp hin
              have jl := (List.getElem?_eq_some_iff.mp hj).1
              have hpj : pas'[j]? = some (pas'[j]'(by rw [CA9.ln]; exact jl)) := List.getElem?_eq_getElem _
              have dg : DGet H9 dn (.int (t : Int)) (some (pas'[j]'(by rw [CA9.ln]; exact jl))) := .inl ⟨cKv (nodes ++ ext) pas', .inl (t : Int), .inl CA9.hd, rfl, (cKv_at B8.nd hj hpj).symm⟩
              refine ⟨_, rfl, _, rfl, _, rfl, _, rfl, dn, _, rfl, dg, _, rfl, ?_⟩
              exact ⟨ext, reps', pas', _, _, rfl, s9, CA9, he9, hf9, B8.skip hu8 hc (by rw [et]; exact hin), ln8, hg9, hu8⟩
            · have dg : DGet H9 dn (.int (t : Int)) none := .inl ⟨cKv (nodes ++ ext) pas', .inl (t : Int), .inl CA9.hd, rfl, (cKv_no hin).symm⟩
              refine ⟨_, rfl, _, rfl, _, rfl, _, rfl, dn, _, rfl, dg, _, rfl, ?_⟩
              refine ⟨_, rfl, _, rfl, by show 2 ≤ sizeLine; decide, fun T3 nT3 => ?_⟩
              have sU := same_new (o := .tup [.int (u : Int), .int (c : Nat)]) nT3
              have CA10 := CA9.same sU
              have g10 : (upd H9 T3 (.tup [.int (u : Int), .int (c : Nat)])) T3 = some (.tup [.int (u : Int), .int (c : Nat)]) := upd_same
              have dp := DPut.k (k := .inl (t : Int)) (v := V.ref T3) CA10.hd (small6 (by rw [cKv_len CA10.ln]; omega))
              rw [cKv_put CA10.ln hin] at dp
              refine ⟨_, rfl, _, rfl, dn, _, rfl, dp, ?_⟩
              have CA11 := CA10.add (v := t) B8.ln g10 hu8 hru8
              have s10 := s9.trans sU
              have wr : ∀ {z : Addr} {xs : List V}, H9 z = some (.lst xs) → (upd (upd H9 T3 (.tup [.int (u : Int), .int (c : Nat)])) dn (.dK (cKv (nodes ++ ext ++ [t]) (pas' ++ [V.ref T3])))) z = some (.lst xs) := fun {z xs} e => by
                rw [upd_ne (fun y => by rw [y, CA9.hd] at e; cases e)]
                exact sU _ _ e
              have he11 := wr he9
              have hf11 := wr hf9
              have hg11 := wr hg9
              have s11 : Same H (upd (upd H9 T3 (.tup [.int (u : Int), .int (c : Nat)])) dn (.dK (cKv (nodes ++ ext ++ [t]) (pas' ++ [V.ref T3])))) := fun b o e => by
                rw [upd_ne (ne_of_none e d0)]
                exact s10 _ _ e
              clear wr dp CA10 g10 sU s10 nT3
              generalize upd (upd H9 T3 (.tup [.int (u : Int), .int (c : Nat)])) dn (.dK (cKv (nodes ++ ext ++ [t]) (pas' ++ [V.ref T3]))) = H11 at *
              have wlu := B8.wk _ _ _ hu8 hru8
              have rlu := B8.len _ _ hru8
              refine ⟨rfl, s11 _ _ CW.fn, _, rfl, s11 _ _ CW.fn, s11 _ _ CW.cd, (stb H11 s11).2, t, rfl, tn, fun H12 s12 => ⟨_, rfl, ?_⟩⟩
              have CA12 := CA11.same s12
              have s1112 := s11.trans s12
              cases hwt : wt t with
              | true =>
                have nd12 : (nodes ++ ext ++ [t]).Nodup := by
                  rw [List.nodup_append]
                  exact ⟨B8.nd, List.nodup_cons.mpr ⟨List.not_mem_nil, List.nodup_nil⟩, fun x hx y hy e => hin (by rw [← List.mem_singleton.mp hy, ← e]; exact hx)⟩
                refine ⟨_, rfl, _, rfl, L, dn, nodes ++ ext ++ [t], reps' ++ [c :: ru8], pas' ++ [V.ref T3], (nodes ++ ext).length, t, c :: ru8, rfl, L3, CA12, nd12, ?_, ?_, fun d hd => (List.mem_cons.mp hd).elim (fun z => z ▸ hc) (wlu.2 d), ?_, ?_, fun H13 s13 => ?_⟩
                · rw [List.getElem?_append_right (Nat.le_refl _), Nat.sub_self]
                  rfl
                · rw [List.getElem?_append_right (by rw [B8.ln]; exact Nat.le_refl _), B8.ln, Nat.sub_self]
                  rfl
                · rw [List.length_cons]
                  omega
                · rw [List.length_append, List.length_singleton]
                  omega
                · exact k H13 (some (c :: ru8)) (s1112.trans s13) (B8.found hu8 hru8 hc (by rw [et]; exact hwt))
              | false =>
                have B12 := B8.add hu8 hru8 hc (by rw [et]; exact hin) (by rw [et]; exact hwt)
                rw [et, List.append_assoc] at B12
                rw [List.append_assoc] at CA12
                have hf12 := s12 _ _ hf11
                have he12 := s12 _ _ he11
                have hg12 := s12 _ _ hg11
                have el : ext.length ≤ (nodes ++ ext).length := by rw [List.length_append]; omega
                refine ⟨_, rfl, .inl ⟨rfl, _, SqL.of hf12⟩, _, rfl, fu, _, _, rfl, rfl, hf12, small6 (by rw [List.length_map]; omega), ?_⟩
                refine ⟨ext ++ [t], _, _, _, _, rfl, fun b o e => ?_, CA12.wr hf12, by rw [upd_ne nef]; exact he12, by rw [upd_same, List.map_append]; rfl, B12, fun v hv => ?_, ?_, ?_⟩
                · rw [upd_ne (ne_of_none e fu0)]
                  exact s1112 _ _ e
                · rw [← List.append_assoc] at hv
                  rcases List.mem_append.mp hv with z | z
                  · exact ln8 v z
                  · rw [List.mem_singleton.mp z]
                    exact tn
                · rw [upd_ne ngf]
                  exact hg12
                · rw [← List.append_assoc, List.getElem?_append_left pil8]
                  exact hu8
          · rintro σ H8 ⟨ext, reps', pas', y7, y8, rfl, s8, CA8, he8, hf8, B8, ln8, hg8, hu8⟩
            rw [List.length_map, gl] at B8
            exact ⟨ext, reps', pas', _, _, _, rfl, s8, CA8, he8, hf8, B8.next (Nat.le_refl _), ln8⟩
        · rintro σ H6 ⟨ext, reps', pas', y6, y7, y8, rfl, s6, CA6, he6, hf6, B6, ln6⟩
          rw [List.length_map, List.length_drop, show p + (nodes.length - p) = nodes.length by omega] at B6
          have nl6 := nodup_len B6.nd ln6
          refine ⟨_, rfl, ⟨fu, nodes.length, nodes ++ ext, reps', pas', _, _, _, _, rfl, s6, fu0, CA6, by rw [List.drop_left]; exact hf6, B6, by rw [List.length_append]; omega, ln6⟩, ?_⟩
          show (match H6 fu, H6 dn with
            | some (.lst xs), some (.dK kvs) => n + 1 + xs.length - kvs.length
            | _, _ => 0) < (match H4 ea, H4 dn with
            | some (.lst xs), some (.dK kvs) => n + 1 + xs.length - kvs.length
            | _, _ => 0)
          rw [hf6, CA6.hd, he4, CA4.hd]
          show n + 1 + (ext.map natV).length - (cKv (nodes ++ ext) pas').length < n + 1 + ((nodes.drop p).map natV).length - (cKv nodes pas).length
          rw [cKv_len CA6.ln, cKv_len CA4.ln, List.length_map, List.length_map, List.length_drop, List.length_append]
          rw [List.length_append] at nl6
          omega
    · rintro σ H1 Q1 Q2 hQ ⟨x, e1, a, xs, e2, e3, q⟩
      exact ⟨x, e1, a, xs, e2, e3, hQ _ _ q⟩
end
/-! ### each state has a way with each letter -/
structure MemAt (H : Hp) (ma : List Addr) (mem : List (List Nat)) : Prop where
  ln : ma.length = mem.length
  at_ : ∀ (b : Nat) (a : Addr), ma[b]? = some a → H a = some (.lst ((mem.getD b []).map natV))
theorem MemAt.keep {H H' : Hp} {ma : List Addr} {mem : List (List Nat)} (h : MemAt H ma mem) {W : Addr → Prop} (k : Keep W H H') (nw : ∀ a ∈ ma, ¬ W a) : MemAt H' ma mem := ⟨h.ln, fun b a e => k _ _ (nw a (List.mem_of_getElem? e)) (h.at_ b a e)⟩
theorem MemAt.push {H : Hp} {ma : List Addr} {mem : List (List Nat)} (h : MemAt H ma mem) {a : Addr} {l : List Nat} (ha : H a = some (.lst (l.map natV))) : MemAt H (ma ++ [a]) (mem ++ [l]) := by
  refine ⟨by rw [List.length_append, List.length_append, h.ln]; rfl, fun b x e => ?_⟩
  have hl := h.ln
  rcases Nat.lt_or_ge b ma.length with q | q
  · rw [List.getElem?_append_left q] at e
    rw [List.getD_eq_getElem?_getD, List.getElem?_append_left (by omega), ← List.getD_eq_getElem?_getD]
    exact h.at_ b x e
  · have l2 := (List.getElem?_eq_some_iff.mp e).1
    rw [List.length_append, List.length_singleton] at l2
    have eb : b = ma.length := by omega
    rw [eb, List.getElem?_append_right (Nat.le_refl _), Nat.sub_self] at e
    cases e
    rw [eb, hl, List.getD_eq_getElem?_getD, List.getElem?_append_right (Nat.le_refl _), Nat.sub_self]
    exact ha
def rCatA : R2 := fun x y H Q => ∃ l b xs zs, x = .ref l ∧ y = .ref b ∧ H l = some (.lst xs) ∧ H b = some (.lst zs) ∧ xs.length + zs.length ≤ sizeLine ∧ ∀ p H', Same H H' → H p = none → H' p = some (.lst (xs ++ zs)) → Q (.ref p) H'
section
variable {X : Cx}
theorem op_catA : OpR X (binaryOp .Add) rCatA := by
  intro pins s σ H x y v u Q I rx ry h
  obtain ⟨l, b, xs, zs, rfl, rfl, hx, hy, hz, q⟩ := h
  cases rx
  cases ry
  obtain ⟨_, its, n, r, h1, e⟩ := I.lstM hx
  obtain ⟨_, jts, m, r2, h2, e2⟩ := I.lstM hy
  refine PySem.P.add_list e e2 ?_ (by rw [List.size_toArray, List.size_toArray]; omega)
  rw [show its.toArray ++ jts.toArray = (its ++ jts).toArray by simp]
  exact ⟨.ref _, _, I.lnew (t' := s.toks) (r.append r2) (by rw [List.length_append]; omega), rfl, q _ _ (same_new I.fresh) I.fresh upd_same⟩
end

section
variable {P : Program} {w : World} {K : PySem.W.Frag} {mg : Str → Option Value} {base : Heap}
theorem scCompl : FnScope ["machine", "letters", "rows", "ends", "sink", "full", "item", "row"] ["machine"] (defScope sCompl) := ⟨rfl, rfl, rfl, by decide +kernel, rfl, by decide +kernel, by decide +kernel⟩
def cmpl (L : Nat) (rs : Rows) : List (List Nat) := rs.map (fun row => row.map fun o => o.getD rs.length) ++ [List.replicate L rs.length]
def spCompl (K : PySem.W.Frag) : Sp := fun vs H Q _ => ∃ (L : Nat) (rs : Rows) (es : List Bool) (x : V) (B : Addr → Prop), vs = [x] ∧ Dt B K H x (machDt L rs es) ∧ MOk L rs es ∧
  ∀ (H' : Hp) (r p1 p2 : Addr) (fas : List Addr), Same H H' → H' r = some (.tup [.ref p1, .ref p2]) → H' p1 = some (.lst (fas.map V.ref)) → MemAt H' fas (cmpl L rs) → H' p2 = some (.lst ((es ++ [false]).map V.bl)) → Q (.ref r) H'
theorem ok_compl {f : Addr} {fd : FuncData} (F : Fun K "completed" "completed" sCompl f fd) (T : Mg mg) : FnOk P w K mg base CX0 1 f fd ["machine"] (spCompl K) := by
  refine F.ok scCompl (fun vs H Q E h => ?_) (fun cdv A outer s H vs Q E hr h => ?_)
  · obtain ⟨L, rs, es, x, B, rfl, _⟩ := h
    rfl
  · obtain ⟨L, rs, es, x, B, rfl, hx, M, k⟩ := h
    refine ⟨_, (pss_cons (ps_asg (pv 0) (pg_tup rfl (pgs_cons (pg_name (i := 1) scCompl.nd rfl (.inl rfl)) (pgs_cons (pg_name (i := 2) scCompl.nd rfl (.inl rfl)) (pgs_cons (pg_name (i := 3) scCompl.nd rfl (.inl rfl)) pgs_nil)))))
      (pss_cons (ps_set (i := 4) scCompl.nd rfl (.inr rfl) (pe_callB (r := rLen K) call_len_seq (by rfl) T.len PySem.boot_len (pa_cons (pv 2) pa_nil)))
      (pss_cons (ps_setLc (i := 5) (own := [("row", 7)]) (g := gName 7) (tt := tYes) rfl scCompl.nd rfl rfl (sw_true rfl rfl rfl (by decide +kernel)) (pi_tup (pv 2)) (blkOk_by (N := ["machine", "letters", "rows", "ends", "sink", "full", "item", "row"]) (sc := defScope sCompl) (by decide +kernel)) (fun _ _ _ _ _ => pg_name (i := 7) scCompl.nd rfl (Or.inl rfl)) (fun _ _ _ _ _ => pts_nil) (fun _ _ _ _ _ => (pe_lc (wi := iTup K _) (own := [("item", 6)]) (g := gName 6) (tt := tYes) rfl scCompl.nd (pi_tup (pv 7)) (blkOk_by (by kernel_rfl)) (fun _ _ _ _ _ => pg_name (i := 6) scCompl.nd rfl (Or.inl rfl)) (fun _ _ _ _ _ => pts_nil) (fun _ _ _ _ _ => (pe_ifExp (pt_cmp (pc_isN (pv 6))) (pv 4) (pv 6))))))
      (pss_one (ps_ret (pe_tup (pa_cons (pe_op op_catA (pv 5) (pe_lst (pa_cons (pe_op op_rep (pe_lst (pa_cons (pv 4) pa_nil)) (pv 1)) pa_nil))) (pa_cons (pe_op op_catA (pe_callTy (r := rListN K) call_listN (by rfl) T.list (by decide +kernel) (pa_cons (pv 3) pa_nil)) (pe_lst (pa_cons pe_bl pa_nil))) pa_nil)))))))), ?_⟩
    have L1 := M.L1
    have L3 := M.L3
    have l1 := M.l1
    have l4 := M.l400
    obtain ⟨m, pr, pe, rvs, rfl, nm, MM⟩ := dt_mach hx
    have hlv := MM.hl
    refine ⟨_, rfl, m, _, rfl, .inl MM.hm, rfl, _, _, rfl, _, _, rfl, _, _, rfl, rfl, ?_⟩
    refine ⟨_, rfl, pr, rvs, rfl, .inr (.inl MM.hr), ?_⟩
    refine ⟨_, rfl, pr, rfl, ⟨_, .inl MM.hr⟩, fun D hD => ?_⟩
    refine lc_tup (K := K) (a := pr) (xs := rvs) (fun i H' => Same H H' ∧ ∃ fas : List Addr, H' D = some (.lst (fas.map V.ref)) ∧ MemAt H' fas ((rs.take i).map fun row => row.map fun o => o.getD rs.length) ∧ ∀ a ∈ fas, a ≠ D) ⟨same_new hD, [], upd_same, ⟨rfl, fun b a e => by cases e⟩, fun a z => absurd z List.not_mem_nil⟩ (fun i H' _ p => .inl (MM.same p.1).hr) ?_ ?_
    · rintro i x H1 hx ⟨s1, fas, hD1, ma, nD⟩
      have il := (List.getElem?_eq_some_iff.mp hx).1
      obtain ⟨row, hrow⟩ : ∃ row, rs[i]? = some row := ⟨_, List.getElem?_eq_getElem (by omega)⟩
      obtain ⟨q, hq1, hq⟩ := (MM.same s1).row i row hrow
      rw [hq1] at hx
      cases hx
      have hrl := M.row row (List.mem_of_getElem? hrow)
      have tk : (rs.take (i + 1)).map (fun row => row.map fun o => o.getD rs.length) = (rs.take i).map (fun row => row.map fun o => o.getD rs.length) ++ [row.map fun o => o.getD rs.length] := by
        rw [List.take_add_one, hrow, List.map_append]
        rfl
      refine ⟨rfl, _, rfl, q, rfl, ⟨_, .inl hq⟩, fun D2 hD2 => ?_⟩
      refine lc_tup (K := K) (a := q) (xs := row.map oV) (NInv (fun o : Option Nat => natV (o.getD rs.length)) row H1 D2) (nstart hD2) (fun i H' _ p => .inl (same_rd p.1 hq)) ?_ ?_
      · rintro j x H2 hx2 p1
        rw [List.getElem?_map] at hx2
        obtain ⟨o, ho, rfl⟩ := Option.map_eq_some_iff.mp hx2
        refine ⟨rfl, _, rfl, _, rfl, ?_⟩
        have sm1 : row.length < sizeLine := small1000 (by omega)
        cases o with
        | none =>
          have := nturn (f := fun o : Option Nat => natV (o.getD rs.length)) sm1 hD2 ho p1 (Same.refl _)
          rw [show natV ((none : Option Nat).getD rs.length) = V.int (rvs.length : Int) by rw [hlv]; rfl] at this
          exact ⟨_, rfl, this⟩
        | some t => exact ⟨_, rfl, nturn (f := fun o : Option Nat => natV (o.getD rs.length)) sm1 hD2 ho p1 (Same.refl _)⟩
      · rintro H2 p1
        obtain ⟨s2, hl2⟩ := nend (List.length_map _) p1
        have hD3 := s2 _ _ hD1
        have nDD : D2 ≠ D := fun z => by rw [z, hD1] at hD2; cases hD2
        have fl := ma.ln
        rw [List.length_map, List.length_take] at fl
        refine ⟨_, hD3, small1000 (by rw [List.length_map]; omega), fun b o e => ?_, fas ++ [D2], by rw [upd_same, List.map_append]; rfl, ?_, fun a ha => ?_⟩
        · rw [upd_ne (ne_of_none e hD)]
          exact s2 _ _ (s1 _ _ e)
        · rw [tk]
          have em : (row.map fun o => natV (o.getD rs.length)) = (row.map fun o : Option Nat => o.getD rs.length).map natV := by
            rw [List.map_map]
            rfl
          rw [em] at hl2
          exact ((ma.keep (W := fun _ => False) (Keep.same s2) (fun _ _ z => z)).push hl2).keep (W := fun b => b = D) (keep_store rfl) (fun a ha z => by
            rcases List.mem_append.mp ha with y | y
            · exact nD a y z
            · rw [List.mem_singleton.mp y] at z
              exact nDD z)
        · rcases List.mem_append.mp ha with y | y
          · exact nD a y
          · rw [List.mem_singleton.mp y]
            exact nDD
    · rintro H1 ⟨s1, fas, hD1, ma, nD⟩
      rw [hlv, List.take_length] at ma
      have fl := ma.ln
      rw [List.length_map] at fl
      refine ⟨_, rfl, _, rfl, by show 1 ≤ sizeLine; decide, fun a1 h1 => ?_⟩
      have e1 := same_new (o := .lst [.int (rvs.length : Int)]) h1
      refine ⟨_, rfl, a1, (L : Int), _, rfl, rfl, upd_same, by omega, by omega, ?_, fun a2 h2 => ?_⟩
      · show 1 * ((L : Int)).toNat ≤ sizeLine
        exact Nat.le_trans (show 1 * ((L : Int)).toNat ≤ 100 by omega) (by decide)
      have er : (List.replicate ((L : Int)).toNat [V.int (rvs.length : Int)]).flatten = (List.replicate L rs.length).map natV := by
        rw [Int.toNat_natCast, List.map_replicate, List.flatten_replicate_singleton, hlv]
        rfl
      rw [er]
      have e2 := same_new (o := .lst ((List.replicate L rs.length).map natV)) h2
      have g2 : (upd (upd H1 a1 (.lst [.int (rvs.length : Int)])) a2 (.lst ((List.replicate L rs.length).map natV))) a2 = some (.lst ((List.replicate L rs.length).map natV)) := upd_same
      have s12 := e1.trans e2
      clear h1 e1 h2 e2
      generalize upd (upd H1 a1 (.lst [.int (rvs.length : Int)])) a2 (.lst ((List.replicate L rs.length).map natV)) = H2 at *
      refine ⟨by show 1 ≤ sizeLine; decide, fun a3 h3 => ?_⟩
      have e3 := same_new (o := .lst [.ref a2]) h3
      refine ⟨D, a3, _, _, rfl, rfl, e3 _ _ (s12 _ _ hD1), upd_same, sz_of (by rw [List.length_map]; show _ + 1 ≤ _; omega), fun p1 H4 s4 _ hp1 => ?_⟩
      have s14 := s12.trans (e3.trans s4)
      have ma4 : MemAt H4 (fas ++ [a2]) (cmpl L rs) := (ma.keep (W := fun _ => False) (Keep.same s14) (fun _ _ z => z)).push ((e3.trans s4) _ _ g2)
      have ep : fas.map V.ref ++ [V.ref a2] = (fas ++ [a2]).map V.ref := by
        rw [List.map_append]
        rfl
      rw [ep] at hp1
      refine ⟨_, rfl, pe, _, rfl, .inl (MM.same (s1.trans s14)).he, fun b1 n1 _ => ?_⟩
      have e5 := same_new (o := .lst (es.map V.bl)) n1
      refine ⟨by show 1 ≤ sizeLine; decide, fun b2 n2 => ?_⟩
      have e6 := same_new (o := .lst [.bl false]) n2
      refine ⟨b1, b2, _, _, rfl, rfl, e6 _ _ upd_same, upd_same, sz_of (by rw [List.length_map, M.es]; show _ + 1 ≤ _; omega), fun p2 H7 s7 _ hp2 => ?_⟩
      have s47 := e5.trans (e6.trans s7)
      refine ⟨by show 2 ≤ sizeLine; decide, fun r nr => ?_⟩
      have e8 := same_new (o := .tup [.ref p1, .ref p2]) nr
      have s48 := s47.trans e8
      have ee : es.map V.bl ++ [V.bl false] = (es ++ [false]).map V.bl := by
        rw [List.map_append]
        rfl
      rw [ee] at hp2
      exact k _ r p1 p2 (fas ++ [a2]) (s1.trans (s14.trans s48)) upd_same (s48 _ _ hp1) (ma4.keep (W := fun _ => False) (Keep.same s48) (fun _ _ z => z)) (e8 _ _ hp2)
end
/-! ### the two functions that apart makes -/
section
open NdefX LamX
variable {P : Program} {w : World} {K : PySem.W.Frag} {mg : Str → Option Value} {base : Heap}
abbrev sGoes : Stmt := (defBody sApartP).getD 3 (.Pass ⟨0, 0, 0, 0⟩)
abbrev sWant : Stmt := (defBody sApartP).getD 4 (.Pass ⟨0, 0, 0, 0⟩)
abbrev NGoes : List Str := ["node", "first", "wide", "second", "item", "beside"]
abbrev NWant : List Str := ["node", "first_ends", "wide", "second_ends"]
theorem nsGoes : NScope NGoes ["node"] ["first", "wide", "second"] (C8.fnScope sGoes) := nscope_by (by decide +kernel)
theorem nsWant : NScope NWant ["node"] ["first_ends", "wide", "second_ends"] (C8.fnScope sWant) := nscope_by (by decide +kernel)
/-- where a pair of states goes, by the letters -/
def gPair (L : Nat) (r1 r2 : Rows) (v : Nat) : List Nat := (List.range L).map fun c => ((cmpl L r1).getD (v / (r2.length + 1)) []).getD c 0 * (r2.length + 1) + ((cmpl L r2).getD (v % (r2.length + 1)) []).getD c 0
def wPair (e1 e2 : List Bool) (v : Nat) : Bool := ((e1 ++ [false]).getD (v / (e2.length + 1)) false) != ((e2 ++ [false]).getD (v % (e2.length + 1)) false)
def GGoes (L : Nat) (r1 r2 : Rows) (ws : List (Option V)) (H : Hp) : Prop := ∃ (p1 p2 : Addr) (fas sas : List Addr), ws = [some (.ref p1), some (.int ((r2.length + 1 : Nat) : Int)), some (.ref p2)] ∧ H p1 = some (.lst (fas.map V.ref)) ∧ MemAt H fas (cmpl L r1) ∧ H p2 = some (.lst (sas.map V.ref)) ∧ MemAt H sas (cmpl L r2)
def GWant (e1 e2 : List Bool) (ws : List (Option V)) (H : Hp) : Prop := ∃ (p1 p2 : Addr), ws = [some (.ref p1), some (.int ((e2.length + 1 : Nat) : Int)), some (.ref p2)] ∧ H p1 = some (.lst ((e1 ++ [false]).map V.bl)) ∧ H p2 = some (.lst ((e2 ++ [false]).map V.bl))
theorem cmpl_len {L : Nat} {rs : Rows} {es : List Bool} (_ : MOk L rs es) : (cmpl L rs).length = rs.length + 1 := by
  unfold cmpl
  rw [List.length_append, List.length_map, List.length_singleton]
theorem cmpl_row {L : Nat} {rs : Rows} {es : List Bool} (M : MOk L rs es) {i : Nat} (hi : i < rs.length + 1) : ((cmpl L rs).getD i []).length = L ∧ ∀ t ∈ (cmpl L rs).getD i [], t < rs.length + 1 := by
  rcases Nat.lt_or_ge i rs.length with l | l
  · have e : (cmpl L rs).getD i [] = (rs[i]).map fun o => o.getD rs.length := by
      unfold cmpl
      rw [List.getD_eq_getElem?_getD, List.getElem?_append_left (by rw [List.length_map]; exact l), List.getElem?_map, List.getElem?_eq_getElem l]
      rfl
    rw [e]
    refine ⟨by rw [List.length_map]; exact M.row _ (List.getElem_mem l), fun t ht => ?_⟩
    obtain ⟨o, ho, rfl⟩ := List.mem_map.mp ht
    cases o with
    | none => exact Nat.lt_succ_self _
    | some s =>
      have := M.tgt _ (List.getElem_mem l) s ho
      show s < rs.length + 1
      omega
  · have e : (cmpl L rs).getD i [] = List.replicate L rs.length := by
      unfold cmpl
      rw [List.getD_eq_getElem?_getD, List.getElem?_append_right (by rw [List.length_map]; exact l), List.length_map, show i - rs.length = 0 by omega]
      rfl
    rw [e]
    refine ⟨List.length_replicate, fun t ht => ?_⟩
    rw [(List.mem_replicate.mp ht).2]
    exact Nat.lt_succ_self _
theorem ok_goes {f : Addr} {F : NF} {cl : List (Str × Addr)} {q : Str} {c' : Addr} (hF : F = NF.of sGoes "goes" q cl c') (T : Mg mg) {L : Nat} {r1 r2 : Rows} {e1 e2 : List Bool} (M1 : MOk L r1 e1) (M2 : MOk L r2 e2) : NOk P w K mg base CX0 1 f F ["node"] ["first", "wide", "second"] (spGoes (GGoes L r1 r2) ((r1.length + 1) * (r2.length + 1)) (gPair L r1 r2)) := by
  subst hF
  refine nok_of nsGoes (fun doc pm ctv us hl => ?_) (fun ws vs H Q E h => ?_) (fun A outer s H vs ws Q E hr hf hc hl h => ?_)
  · match us, hl with
    | [u], _ => rfl
  · obtain ⟨_, v, rfl, _⟩ := h
    rfl
  · obtain ⟨⟨p1, p2, fas, sas, rfl, h1, m1, h2, m2⟩, v, rfl, lv, k⟩ := h
    refine ⟨_, pss_one (ps_ret (pe_lc (own := [("item", 4), ("beside", 5)]) (g := gTup K 2 (gCons (gName 4) (gCons (gName 5) gNil))) (tt := tYes) rfl nsGoes.nd (pi_zip (by rfl) T.zip (pa_cons (pe_ix (r := rIxL K) ix_list (pv 1) (pe_op op_fdiv (pv 0) (pv 2)) (fun _ _ => rfl)) (pa_cons (pe_ix (r := rIxL K) ix_list (pv 3) (pe_op op_mod (pv 0) (pv 2)) (fun _ _ => rfl)) pa_nil))) (blkOk_by (N := NGoes) (sc := C8.fnScope sGoes) (by decide +kernel)) (fun _ _ _ _ _ => pg_tup rfl (pgs_cons (pg_name (i := 4) nsGoes.nd rfl (.inl rfl) (hf := .inr rfl)) (pgs_cons (pg_name (i := 5) nsGoes.nd rfl (.inl rfl) (hf := .inr rfl)) pgs_nil))) (fun _ _ _ _ _ => pts_nil) (fun _ _ _ _ _ => pe_op op_add (pe_op op_mul (pv 4) (pv 2)) (pv 5)))), ?_⟩
    have wp : 0 < r2.length + 1 := by omega
    have l4 := M1.l400
    have l4' := M2.l400
    have L3 := M1.L3
    have hq : v / (r2.length + 1) < r1.length + 1 := Nat.div_lt_of_lt_mul (by rw [Nat.mul_comm]; exact lv)
    have hm : v % (r2.length + 1) < r2.length + 1 := Nat.mod_lt _ wp
    have c1 := cmpl_len M1
    have c2 := cmpl_len M2
    have fl := m1.ln
    have sl := m2.ln
    obtain ⟨f1, hf1⟩ : ∃ f1, fas[v / (r2.length + 1)]? = some f1 := ⟨_, List.getElem?_eq_getElem (by omega)⟩
    obtain ⟨s1, hs1⟩ : ∃ s1, sas[v % (r2.length + 1)]? = some s1 := ⟨_, List.getElem?_eq_getElem (by omega)⟩
    have g1 := m1.at_ _ _ hf1
    have g2 := m2.at_ _ _ hs1
    have a1 := cmpl_row M1 hq
    have a2 := cmpl_row M2 hm
    have e1 : (v : Int) / ((r2.length + 1 : Nat) : Int) = ((v / (r2.length + 1) : Nat) : Int) := (Int.natCast_ediv _ _).symm
    have e2 : (v : Int) % ((r2.length + 1 : Nat) : Int) = ((v % (r2.length + 1) : Nat) : Int) := (Int.natCast_emod _ _).symm
    refine ⟨_, rfl, _, rfl, _, rfl, _, _, rfl, rfl, ⟨by omega, by omega⟩, p1, _, _, V.ref f1, rfl, rfl, SqL.of h1, by rw [e1]; exact atI_nat (by rw [List.getElem?_map, hf1]; rfl), ?_⟩
    refine ⟨_, rfl, _, rfl, _, rfl, _, _, rfl, rfl, by omega, p2, _, _, V.ref s1, rfl, rfl, SqL.of h2, by rw [e2]; exact atI_nat (by rw [List.getElem?_map, hs1]; rfl), ?_⟩
    refine ⟨f1, s1, _, _, rfl, SqL.of g1, SqL.of g2, fun D hD => ?_⟩
    have eg : gPair L r1 r2 v = (List.range L).map fun c => ((cmpl L r1).getD (v / (r2.length + 1)) []).getD c 0 * (r2.length + 1) + ((cmpl L r2).getD (v % (r2.length + 1)) []).getD c 0 := rfl
    generalize (cmpl L r1).getD (v / (r2.length + 1)) [] = A1 at *
    generalize (cmpl L r2).getD (v % (r2.length + 1)) [] = A2 at *
    refine lc_it (walk_zip (a := f1) (b := s1) (xs := A1.map natV) (ys := A2.map natV) (n := L) (by rw [List.length_map, List.length_map, a1.1, a2.1, Nat.min_self])) (fun j H' => Same H H' ∧ H' D = some (.lst (((List.range j).map fun c => A1.getD c 0 * (r2.length + 1) + A2.getD c 0).map natV))) ⟨same_new hD, upd_same⟩ (fun j H' _ p => ⟨SqL.of (p.1 _ _ g1), SqL.of (p.1 _ _ g2)⟩) ?_ ?_
    · rintro j x H1 H2 hj ⟨sm, hl1⟩ ⟨T2, va, vb, rfl, nT, rfl, ea, eb⟩
      obtain ⟨x1, hx1, rfl⟩ := natV_of ea
      obtain ⟨x2, hx2, rfl⟩ := natV_of eb
      have b1 := a1.2 x1 (List.mem_of_getElem? hx1)
      have sT := same_new (o := .tup [V.int (x1 : Int), V.int (x2 : Int)]) nT
      refine ⟨T2, _, rfl, SqT.of upd_same, rfl, _, _, rfl, _, _, rfl, rfl, ?_⟩
      refine ⟨rfl, _, rfl, _, rfl, _, _, rfl, rfl, .inl ⟨by omega, by omega⟩, _, rfl, _, _, rfl, rfl, ?_⟩
      refine ⟨_, sT _ _ hl1, small1000 (by rw [List.length_map, List.length_map, List.length_range]; omega), fun b o e => ?_, ?_⟩
      · rw [upd_ne (ne_of_none e hD)]
        exact sT _ _ (sm _ _ e)
      · rw [upd_same, List.range_succ, List.map_append, List.map_append]
        have d1 : A1.getD j 0 = x1 := by rw [List.getD_eq_getElem?_getD, hx1]; rfl
        have d2 : A2.getD j 0 = x2 := by rw [List.getD_eq_getElem?_getD, hx2]; rfl
        show some (HO.lst (_ ++ [V.int ((x1 : Int) * ((r2.length + 1 : Nat) : Int) + (x2 : Int))])) = some (HO.lst (_ ++ [natV (A1.getD j 0 * (r2.length + 1) + A2.getD j 0)]))
        rw [d1, d2]
        show _ = some (HO.lst (_ ++ [V.int ((x1 * (r2.length + 1) + x2 : Nat) : Int)]))
        rw [show (x1 : Int) * ((r2.length + 1 : Nat) : Int) + (x2 : Int) = ((x1 * (r2.length + 1) + x2 : Nat) : Int) by rw [Int.natCast_add (x1 * (r2.length + 1)) x2, Int.natCast_mul x1 (r2.length + 1)]]
    · rintro H1 ⟨sm, hl1⟩
      exact k H1 D sm hD (by rw [eg]; exact hl1)
theorem ok_want {f : Addr} {F : NF} {cl : List (Str × Addr)} {q : Str} {c' : Addr} (hF : F = NF.of sWant "wanted" q cl c') {L : Nat} {r1 r2 : Rows} {e1 e2 : List Bool} (M1 : MOk L r1 e1) (M2 : MOk L r2 e2) : NOk P w K mg base CX0 1 f F ["node"] ["first_ends", "wide", "second_ends"] (spWant (GWant e1 e2) ((r1.length + 1) * (r2.length + 1)) (wPair e1 e2)) := by
  subst hF
  refine nok_of nsWant (fun doc pm ctv us hl => ?_) (fun ws vs H Q E h => ?_) (fun A outer s H vs ws Q E hr hf hc hl h => ?_)
  · match us, hl with
    | [u], _ => rfl
  · obtain ⟨_, v, rfl, _⟩ := h
    rfl
  · obtain ⟨⟨p1, p2, rfl, h1, h2⟩, v, rfl, lv, k⟩ := h
    refine ⟨_, pss_one (ps_ret (pe_cmpR op_ne (pe_ix (r := rIxL K) ix_list (pv 1) (pe_op op_fdiv (pv 0) (pv 2)) (fun _ _ => rfl)) (pe_ix (r := rIxL K) ix_list (pv 3) (pe_op op_mod (pv 0) (pv 2)) (fun _ _ => rfl)) (nomark _))), ?_⟩
    have d1 := M1.es
    have d2 := M2.es
    have l4' := M2.l400
    have wp : 0 < e2.length + 1 := by omega
    rw [← d1, ← d2] at lv
    have hq : v / (e2.length + 1) < e1.length + 1 := Nat.div_lt_of_lt_mul (by rw [Nat.mul_comm]; exact lv)
    have hm : v % (e2.length + 1) < e2.length + 1 := Nat.mod_lt _ wp
    have i1 : (v : Int) / ((e2.length + 1 : Nat) : Int) = ((v / (e2.length + 1) : Nat) : Int) := (Int.natCast_ediv _ _).symm
    have i2 : (v : Int) % ((e2.length + 1 : Nat) : Int) = ((v % (e2.length + 1) : Nat) : Int) := (Int.natCast_emod _ _).symm
    have at1 : ∀ {xs : List Bool} {i : Nat}, i < xs.length → (xs.map V.bl)[i]? = some (.bl (xs.getD i false)) := fun {xs i} h => by
      rw [List.getElem?_map, getD_at h, List.getElem?_eq_getElem h]
      rfl
    refine ⟨_, rfl, _, rfl, _, rfl, _, _, rfl, rfl, ⟨by omega, by omega⟩, p1, _, _, _, rfl, rfl, SqL.of h1, by rw [i1]; exact atI_nat (at1 (by rw [List.length_append]; exact hq)), ?_⟩
    refine ⟨_, rfl, _, rfl, _, rfl, _, _, rfl, rfl, by omega, p2, _, _, _, rfl, rfl, SqL.of h2, by rw [i2]; exact atI_nat (at1 (by rw [List.length_append]; exact hm)), rfl, ?_⟩
    have ew : (!decide (V.bl ((e1 ++ [false]).getD (v / (e2.length + 1)) false) = V.bl ((e2 ++ [false]).getD (v % (e2.length + 1)) false))) = wPair e1 e2 v := by
      unfold wPair
      cases (e1 ++ [false]).getD (v / (e2.length + 1)) false <;> cases (e2 ++ [false]).getD (v % (e2.length + 1)) false <;> rfl
    rw [ew]
    exact k H (Same.refl _)
end
/-! ### words that tell two machines apart -/
section
open NdefX LamX
variable {P : Program} {w : World} {K : PySem.W.Frag} {mg : Str → Option Value} {base : Heap}
/-- a def whose code object c has the table at T -/
structure FunT (K : PySem.W.Frag) (x qual : Str) (st : Stmt) (f : Addr) (fd : FuncData) (c T : Addr) : Prop where
  ex : ∃ (oc : Value) (od : Option Addr) (kV doc pm : Value) (an : Option Addr) (ct : Value) (osl : Array (Option Value)), fd = PySem.W.fnOf x qual (defArgs st) (defBody st) (defScope st) .none kV doc pm an (.ref c) ct ∧ K.lookup f = some ⟨oc, od, .func fd, osl⟩ ∧ PySem.W.codeIn K (.ref c) qual = true
  kp : PySem.W.keepIn K (.ref f) = true
  hd : PySem.W.codeHdIn K c T = true
  gP : mainGlobals ≠ T
abbrev NApart : List Str := ["one", "other", "first", "first_ends", "second", "second_ends", "wide", "goes", "wanted"]
theorem scApartP : FnScope NApart ["one", "other"] (defScope sApartP) := ⟨rfl, rfl, rfl, by decide +kernel, rfl, by decide +kernel, by decide +kernel⟩
theorem mem_getDn {xs : List Nat} {i d : Nat} (h : i < xs.length) : xs.getD i d ∈ xs := by
  rw [getD_at h]; exact List.getElem_mem _
theorem gPair_lt {L : Nat} {r1 r2 : Rows} {e1 e2 : List Bool} (M1 : MOk L r1 e1) (M2 : MOk L r2 e2) {v : Nat} (hv : v < (r1.length + 1) * (r2.length + 1)) : (gPair L r1 r2 v).length = L ∧ ∀ t ∈ gPair L r1 r2 v, t < (r1.length + 1) * (r2.length + 1) := by
  have hq : v / (r2.length + 1) < r1.length + 1 := Nat.div_lt_of_lt_mul (by rw [Nat.mul_comm]; exact hv)
  have hm : v % (r2.length + 1) < r2.length + 1 := Nat.mod_lt _ (by omega)
  obtain ⟨l1, t1⟩ := cmpl_row M1 hq
  obtain ⟨l2, t2⟩ := cmpl_row M2 hm
  unfold gPair
  refine ⟨by rw [List.length_map, List.length_range], fun t ht => ?_⟩
  obtain ⟨c, hc, rfl⟩ := List.mem_map.mp ht
  have hc := List.mem_range.mp hc
  have a : ((cmpl L r1).getD (v / (r2.length + 1)) []).getD c 0 < r1.length + 1 := t1 _ (mem_getDn (by rw [l1]; exact hc))
  have b : ((cmpl L r2).getD (v % (r2.length + 1)) []).getD c 0 < r2.length + 1 := t2 _ (mem_getDn (by rw [l2]; exact hc))
  generalize ((cmpl L r1).getD (v / (r2.length + 1)) []).getD c 0 = p at *
  generalize ((cmpl L r2).getD (v % (r2.length + 1)) []).getD c 0 = q at *
  have := Nat.mul_le_mul_right (r2.length + 1) (show p + 1 ≤ r1.length + 1 from a)
  rw [Nat.add_mul, Nat.one_mul] at this
  omega
def posOf : Stmt → Pos
  | .FunctionDef _ _ _ _ _ _ _ _ _ p => p
  | _ => ⟨0, 0, 0, 0⟩
def nmA (l _c : Nat) : Str := if l = (posOf sGoes).line then "apart.<locals>.goes" else "apart.<locals>.wanted"
/-- the words, told from their end, that one of two machines has and the other has not -/
def Unl (L : Nat) (r1 r2 : Rows) (e1 e2 : List Bool) (u : List Nat) : Prop := wPair e1 e2 (walkr (gT (gPair L r1 r2)) 0 u) = true
def spApartP (K : PySem.W.Frag) (Pt : Addr) : Sp := fun vs H Q _ => ∃ (L : Nat) (r1 r2 : Rows) (e1 e2 : List Bool) (x y : V) (B1 B2 : Addr → Prop), vs = [x, y] ∧ Dt B1 K H x (machDt L r1 e1) ∧ Dt B2 K H y (machDt L r2 e2) ∧ MOk L r1 e1 ∧ MOk L r2 e2 ∧ TabN H Pt nmA ∧
  ∀ H' o, ExtN H H' → TabN H' Pt nmA → First (Unl L r1 r2 e1 e2) L o → Q (txO o) H'
theorem ok_apartP {f fCM fFW : Addr} {fd fdCM fdFW : FuncData} {c Pt : Addr} (F : FunT K "apart" "apart" sApartP f fd c Pt) (TBp : TabB base mg c Pt)
    (CM : FnOk P w K mg base CX0 1 fCM fdCM ["machine"] (spCompl K)) (FCM : Fun K "completed" "completed" sCompl fCM fdCM) (bCM : Binds K fdCM ["machine"] []) (gCM : mg "completed" = some (.ref fCM))
    (FW : CRun P w K mg base 2 fFW fdFW ["start", "goes", "wanted"] (spFirst P w K mg base)) (FFW : Fun K "first_word" "first_word" sFirst fFW fdFW) (bFW : Binds K fdFW ["start", "goes", "wanted"] []) (gFW : mg "first_word" = some (.ref fFW)) (T : Mg mg) :
    FnOk P w K mg base CX0 3 f fd ["one", "other"] (spApartP K Pt) := by
  obtain ⟨oc, od, kV, doc, pm, an, ct, osl, rfl, lk, hcd⟩ := F.ex
  refine fn_of lk hcd scApartP (fun vs H Q E h => ?_) (fun A outer s H vs Q E hr h => ?_)
  · obtain ⟨L, r1, r2, e1, e2, x, y, B1, B2, rfl, _⟩ := h
    rfl
  · obtain ⟨L, r1, r2, e1, e2, x, y, B1, B2, rfl, hx, hy, M1, M2, tb, k⟩ := h
    have term : ∃ t, PSs (cxOf CX0 P w K mg base NApart "apart" (defScope sApartP) f (.ref c) A outer s H E).nox (defBody sApartP) t ∧ t { nx := fun _ H' => Q .non H', rt := Q } (start NApart [x, y]) H := by
      refine ⟨_, pss_cons (ps_asg (pe_call CM (hr.mono (by decide)) (by rfl) gCM FCM.kp bCM .nil pass0 (pa_cons (pv 0) pa_nil)) (pg_tup rfl (pgs_cons (pg_name (i := 2) scApartP.nd rfl (.inr rfl)) (pgs_cons (pg_name (i := 3) scApartP.nd rfl (.inr rfl)) pgs_nil))))
        (pss_cons (ps_asg (pe_call CM (hr.mono (by decide)) (by rfl) gCM FCM.kp bCM .nil pass0 (pa_cons (pv 1) pa_nil)) (pg_tup rfl (pgs_cons (pg_name (i := 4) scApartP.nd rfl (.inr rfl)) (pgs_cons (pg_name (i := 5) scApartP.nd rfl (.inr rfl)) pgs_nil))))
        (pss_cons (ps_set (i := 6) scApartP.nd rfl (.inr rfl) (pe_callB (r := rLen K) call_len_seq (by rfl) T.len PySem.boot_len (pa_cons (pv 4) pa_nil)))
        (pss_cons (ps_ndefMS (st := sGoes) (T := [(Pt, nmA)]) (nm := nmA) (i := 7) (by rfl) TBp rfl (by simp) (by kernel_rfl) (fun p hp _ => by rw [List.mem_singleton.mp hp]) (ndef_free (fr := ["first", "wide", "second"]) (show ndefB (defScope sApartP) (C8.fnScope sGoes) ["first", "wide", "second"] = true from by decide +kernel)) rfl rfl rfl scApartP.nd rfl (.inl rfl) (.inl rfl))
        (pss_cons (ps_ndefMS (st := sWant) (T := [(Pt, nmA)]) (nm := nmA) (i := 8) (by rfl) TBp rfl (by simp) (by kernel_rfl) (fun p hp _ => by rw [List.mem_singleton.mp hp]) (ndef_free (fr := ["first_ends", "wide", "second_ends"]) (show ndefB (defScope sApartP) (C8.fnScope sWant) ["first_ends", "wide", "second_ends"] = true from by decide +kernel)) rfl rfl rfl scApartP.nd rfl (.inl rfl) (.inl rfl))
        (pss_one (ps_ret (pe_callC FW (fun _ => rfl) (hr.mono (by decide)) (by rfl) gFW FFW.kp bFW (pa_cons pe_int (pa_cons (pv 7) (pa_cons (pv 8) pa_nil)))))))))), ?_⟩
      have nt : ∀ {xs : List V} (ps : Array Value), HO.lst xs ≠ HO.tbl ps := fun ps z => by cases z
      refine ⟨_, rfl, L, r1, e1, x, B1, rfl, hx, M1, fun H1 ra p1 q1 fas s1 hra hp1 m1 hq1 => ?_⟩
      refine ⟨ra, _, rfl, SqT.of hra, rfl, _, _, rfl, _, _, rfl, rfl, ?_⟩
      refine ⟨_, rfl, L, r2, e2, y, B2, rfl, same_dt s1 hy, M2, fun H2 rb p2 q2 sas s2 hrb hp2 m2 hq2 => ?_⟩
      refine ⟨rb, _, rfl, SqT.of hrb, rfl, _, _, rfl, _, _, rfl, rfl, ?_⟩
      have s12 := s1.trans s2
      have hp12 := s2 _ _ hp1
      have hq12 := s2 _ _ hq1
      have m12 := m1.keep (W := fun _ => False) (Keep.same s2) (fun _ _ z => z)
      have tb2 := tb.ext s12
      have c2 := cmpl_len M2
      have sl := m2.ln
      refine ⟨_, rfl, p2, _, rfl, .inl (SqL.of hp2), ?_⟩
      have ew : V.int ((sas.map V.ref).length : Int) = V.int ((r2.length + 1 : Nat) : Int) := by rw [List.length_map, sl, c2]
      refine ⟨fun p hp => by rw [List.mem_singleton.mp hp]; exact tb2, fun fg c1 H3 x3 n3 t3 _ hg3 hc3 => ?_⟩
      refine ⟨t3, fun fw c2' H4 x4 n4 t4 _ hw4 hc4 => ?_⟩
      have x34 := x3.trans x4
      have x24 := (ExtN.of s12).trans x34
      have hg4 := x4 _ _ hg3 (fun ps z => fnO_ne ps z)
      have hcg4 := x4 _ _ hc3 codeO_ne
      have lst4 : ∀ {a : Addr} {xs : List V}, H2 a = some (.lst xs) → H4 a = some (.lst xs) := fun e => x34 _ _ e (fun ps => nt ps)
      have mem4 : ∀ {ma : List Addr} {mem : List (List Nat)}, MemAt H2 ma mem → MemAt H4 ma mem := fun h => ⟨h.ln, fun b a e => lst4 (h.at_ b a e)⟩
      have a1 := lst4 hp12
      have a2 := lst4 hp2
      have b1 := mem4 m12
      have b2 := mem4 m2
      have d1 := lst4 hq12
      have d2 := lst4 hq2
      have tb4 : TabN H4 Pt nmA := t4 _ List.mem_cons_self
      refine ⟨_, rfl, _, rfl, rfl, fun s' outer' clo => ?_⟩
      refine ⟨(r1.length + 1) * (r2.length + 1), L, gPair L r1 r2, wPair e1 e2, fg, fw, _, _, ["node"], ["node"], ["first", "wide", "second"], ["first_ends", "wide", "second_ends"], _, _, GGoes L r1 r2, GWant e1 e2, 0, rfl,
        clo _ fg ["first", "wide", "second"] [2, 6, 4] (fun ok => Caps.made ok (ndef_free (fr := ["first", "wide", "second"]) (show ndefB (defScope sApartP) (C8.fnScope sGoes) ["first", "wide", "second"] = true from by decide +kernel)) (ndef_fr (sc := defScope sApartP) (by decide +kernel)) rfl) hg4 hcg4,
        clo _ fw ["first_ends", "wide", "second_ends"] [3, 6, 5] (fun ok => Caps.made ok (ndef_free (fr := ["first_ends", "wide", "second_ends"]) (show ndefB (defScope sApartP) (C8.fnScope sWant) ["first_ends", "wide", "second_ends"] = true from by decide +kernel)) (ndef_fr (sc := defScope sApartP) (by decide +kernel)) rfl) hw4 hc4,
        ok_goes rfl T M1 M2, ok_want rfl M1 M2, fun H5 s5 => ⟨⟨p1, p2, fas, sas, ?_, s5 _ _ a1, b1.keep (W := fun _ => False) (Keep.same s5) (fun _ _ z => z), s5 _ _ a2, b2.keep (W := fun _ => False) (Keep.same s5) (fun _ _ z => z)⟩, ⟨q1, q2, ?_, s5 _ _ d1, s5 _ _ d2⟩⟩, ?_, fun v hv => ?_, M1.L3, ?_, fun H5 o s5 ho => ?_⟩
      · show [some (V.ref p1), some (V.int ((sas.map V.ref).length : Int)), some (V.ref p2)] = _
        rw [ew]
      · show [some (V.ref q1), some (V.int ((sas.map V.ref).length : Int)), some (V.ref q2)] = _
        rw [ew, M2.es]
      · exact Nat.mul_pos (by omega) (by omega)
      · exact gPair_lt M1 M2 hv
      · have := Nat.mul_le_mul (Nat.succ_le_succ M1.l400) (Nat.succ_le_succ M2.l400)
        exact Nat.le_trans this (by decide)
      · exact k H5 o (x24.trans (ExtN.of s5)) (tb4.ext s5) ho
    obtain ⟨t, h1, h2⟩ := term
    exact ⟨t, h1.nox, h2⟩
end
/-! ### words read from behind -/
def run (rs : Rws) : List Nat → Nat → Option Nat
  | [], s => some s
  | c :: w, s => match nx rs s c with
    | none => none
    | some t => run rs w t
theorem run_cons {rs : Rws} {c s : Nat} {w : List Nat} : run rs (c :: w) s = (nx rs s c).bind (run rs w) := by
  show (match nx rs s c with | none => none | some t => run rs w t) = _
  cases nx rs s c <;> rfl
theorem run_snoc {rs : Rws} {c : Nat} : ∀ (w : List Nat) (s : Nat), run rs (w ++ [c]) s = (run rs w s).bind fun p => nx rs p c
  | [], s => by
    show run rs [c] s = nx rs s c
    rw [run_cons]
    cases nx rs s c <;> rfl
  | d :: w, s => by
    show run rs (d :: (w ++ [c])) s = _
    rw [run_cons, run_cons]
    cases nx rs s d with
    | none => rfl
    | some t => exact run_snoc w t
theorem acc_run {rs : Rws} {es : List Bool} : ∀ (w : List Nat) (s : Nat), acc rs es w s = true ↔ ∃ t, run rs w s = some t ∧ es.getD t false = true
  | [], s => ⟨fun h => ⟨s, rfl, h⟩, fun ⟨t, h1, h2⟩ => by cases h1; exact h2⟩
  | c :: w, s => by
    cases e : nx rs s c with
    | none =>
      rw [acc_none e, run_cons, e]
      exact ⟨fun z => (by cases z), fun ⟨t, h, _⟩ => (by cases h)⟩
    | some t =>
      rw [acc_cons e, run_cons, e]
      exact acc_run w t
theorem nx_at {rs : Rws} {s c t : Nat} : nx rs s c = some t ↔ ∃ row, rs[s]? = some row ∧ row[c]? = some (some t) := by
  unfold nx
  rw [List.getD_eq_getElem?_getD, List.getD_eq_getElem?_getD]
  constructor
  · intro h
    cases e : rs[s]? with
    | none =>
      rw [e] at h
      cases h
    | some row =>
      rw [e, Option.getD_some] at h
      cases e2 : row[c]? with
      | none =>
        rw [e2] at h
        cases h
      | some o =>
        rw [e2] at h
        exact ⟨row, rfl, by rw [e2]; exact congrArg some h⟩
  · rintro ⟨row, h1, h2⟩
    rw [h1, Option.getD_some, h2]
    rfl
theorem reach_run {rs : Rws} {p : Nat} : Reach rs p ↔ ∃ u, run rs u 0 = some p := by
  constructor
  · intro h
    induction h with
    | z => exact ⟨[], rfl⟩
    | s r h1 h2 ih =>
      rename_i u v l row
      obtain ⟨w, hw⟩ := ih
      exact ⟨w ++ [l], by rw [run_snoc, hw]; exact nx_at.mpr ⟨row, h1, h2⟩⟩
  · rintro ⟨u, h⟩
    have key : ∀ (u : List Nat) (s : Nat), Reach rs s → run rs u s = some p → Reach rs p := by
      intro u
      induction u with
      | nil => intro s r h; cases h; exact r
      | cons c u ih =>
        intro s r h
        rw [run_cons] at h
        cases e : nx rs s c with
        | none => rw [e] at h; cases h
        | some t =>
          rw [e] at h
          obtain ⟨row, h1, h2⟩ := nx_at.mp e
          exact ih t (.s r h1 h2) h
    exact key u 0 .z h
theorem reach_on {rs : Rws} {p c s : Nat} (r : Reach rs p) (h : nx rs p c = some s) : Reach rs s := by
  obtain ⟨row, h1, h2⟩ := nx_at.mp h
  exact .s r h1 h2
/-- states are lots of the states of another machine: those from which they lead here from behind -/
structure RV (rs : Rws) (L : Nat) (M : Nat → Nat → Prop) (out : Rws) (oe : List Bool) : Prop where
  wide : ∀ r ∈ out, r.length = L
  wide0 : ∀ r ∈ rs, r.length = L
  en : ∀ i, i < out.length → (oe.getD i false = true ↔ M i 0)
  go : ∀ i c, i < out.length → c < L → (∃ j, j < out.length ∧ nx out i c = some j ∧ ∀ p, Reach rs p → (M j p ↔ ∃ s, nx rs p c = some s ∧ M i s)) ∨ (nx out i c = none ∧ ∀ p s, Reach rs p → nx rs p c = some s → ¬ M i s)
section
variable {rs out : Rws} {L : Nat} {M : Nat → Nat → Prop} {oe es : List Bool}
theorem RV.acc (h : RV rs L M out oe) : ∀ (w : List Nat) (i : Nat), i < out.length → (acc out oe w i = true ↔ ∃ s, run rs w.reverse 0 = some s ∧ M i s)
  | [], i, hi => ⟨fun z => ⟨0, rfl, (h.en i hi).mp z⟩, fun ⟨s, h1, h2⟩ => by cases h1; exact (h.en i hi).mpr h2⟩
  | c :: w, i, hi => by
    rw [List.reverse_cons, run_snoc]
    rcases Nat.lt_or_ge c L with hc | hc
    · rcases h.go i c hi hc with ⟨j, hj, e, he⟩ | ⟨e, he⟩
      · rw [acc_cons e, h.acc w j hj]
        constructor
        · rintro ⟨p, h1, h2⟩
          obtain ⟨s, h3, h4⟩ := (he p (reach_run.mpr ⟨_, h1⟩)).mp h2
          exact ⟨s, by rw [h1]; exact h3, h4⟩
        · rintro ⟨s, h1, h2⟩
          cases e2 : run rs w.reverse 0 with
          | none => rw [e2] at h1; cases h1
          | some p =>
            rw [e2] at h1
            exact ⟨p, rfl, (he p (reach_run.mpr ⟨_, e2⟩)).mpr ⟨s, h1, h2⟩⟩
      · rw [acc_none e]
        refine ⟨fun z => (by cases z), fun ⟨s, h1, h2⟩ => ?_⟩
        cases e2 : run rs w.reverse 0 with
        | none => rw [e2] at h1; cases h1
        | some p =>
          rw [e2] at h1
          exact absurd h2 (he p s (reach_run.mpr ⟨_, e2⟩) h1)
    · have n1 : nx out i c = none := by
        cases e : nx out i c with
        | none => rfl
        | some t =>
          have := (nx_lt h.wide e).2.1
          omega
      rw [acc_none n1]
      refine ⟨fun z => (by cases z), fun ⟨s, h1, h2⟩ => ?_⟩
      cases e2 : run rs w.reverse 0 with
      | none => rw [e2] at h1; cases h1
      | some p =>
        rw [e2] at h1
        have := (nx_lt h.wide0 h1).2.1
        omega
def RevOf (rs : Rws) (es : List Bool) (out : Rws) (oe : List Bool) : Prop := ∀ w, acc out oe w 0 = acc rs es w.reverse 0
theorem RV.rev (h : RV rs L M out oe) (l1 : 1 ≤ out.length) (st : ∀ p, Reach rs p → (M 0 p ↔ es.getD p false = true)) : RevOf rs es out oe := fun w => by
  have e : Ver.acc out oe w 0 = true ↔ Ver.acc rs es w.reverse 0 = true := by
    rw [h.acc w 0 l1, acc_run]
    constructor
    · rintro ⟨s, h1, h2⟩
      exact ⟨s, h1, (st s (reach_run.mpr ⟨_, h1⟩)).mp h2⟩
    · rintro ⟨s, h1, h2⟩
      exact ⟨s, h1, (st s (reach_run.mpr ⟨_, h1⟩)).mpr h2⟩
  exact Bool.eq_iff_iff.mpr e
theorem RV.live (h : RV rs L M out oe) {i : Nat} (hi : i < out.length) {p : Nat} (r : Reach rs p) (m : M i p) : Live out oe i := by
  obtain ⟨u, hu⟩ := reach_run.mp r
  exact ⟨u.reverse, (h.acc u.reverse i hi).mpr ⟨p, by rw [List.reverse_reverse]; exact hu, m⟩⟩
theorem RV.eqv (h : RV rs L M out oe) {i j : Nat} (hi : i < out.length) (hj : j < out.length) (e : Eqv out oe out oe i j) (p : Nat) (r : Reach rs p) : M i p ↔ M j p := by
  obtain ⟨u, hu⟩ := reach_run.mp r
  have h1 := h.acc u.reverse i hi
  have h2 := h.acc u.reverse j hj
  rw [e u.reverse, List.reverse_reverse, hu] at h1
  rw [List.reverse_reverse, hu] at h2
  constructor
  · intro m
    obtain ⟨s, e1, m'⟩ := h2.mp (h1.mpr ⟨p, rfl, m⟩)
    cases e1
    exact m'
  · intro m
    obtain ⟨s, e1, m'⟩ := h1.mp (h2.mpr ⟨p, rfl, m⟩)
    cases e1
    exact m'
end
/-! ### sets as numbers -/
def bitsN (xs : List Nat) : Nat := xs.foldl (fun h s => h ||| 2 ^ s) 0
theorem bits_from (xs : List Nat) : ∀ (a p : Nat), (xs.foldl (fun h s => h ||| 2 ^ s) a).testBit p = (a.testBit p || decide (p ∈ xs)) := by
  induction xs with
  | nil => intro a p; simp
  | cons x xs ih =>
    intro a p
    rw [List.foldl_cons, ih, Nat.testBit_or, Nat.testBit_two_pow, Bool.or_assoc]
    congr 1
    rw [← Bool.decide_or, decide_eq_decide, List.mem_cons]
    constructor
    · rintro (h | h)
      · exact .inl h.symm
      · exact .inr h
    · rintro (h | h)
      · exact .inl h.symm
      · exact .inr h
theorem bits_bit (xs : List Nat) (p : Nat) : (bitsN xs).testBit p = decide (p ∈ xs) := by
  unfold bitsN
  rw [bits_from, Nat.zero_testBit, Bool.false_or]
theorem bits_eq {xs ys : List Nat} (h : ∀ p, p ∈ xs ↔ p ∈ ys) : bitsN xs = bitsN ys := Nat.eq_of_testBit_eq fun i => by
  rw [bits_bit, bits_bit, decide_eq_decide]
  exact h i
def joinN (w : List Nat) (x : Nat) : Nat := (List.range w.length).foldl (fun f s => if x.testBit s then f ||| w.getD s 0 else f) 0
theorem join_from {w : List Nat} {x : Nat} (ss : List Nat) : ∀ (a p : Nat), (ss.foldl (fun f s => if x.testBit s then f ||| w.getD s 0 else f) a).testBit p = true ↔ (a.testBit p = true ∨ ∃ s ∈ ss, x.testBit s = true ∧ (w.getD s 0).testBit p = true) := by
  induction ss with
  | nil => intro a p; exact ⟨.inl, fun h => h.elim id fun ⟨s, h, _⟩ => absurd h List.not_mem_nil⟩
  | cons s ss ih =>
    intro a p
    rw [List.foldl_cons, ih]
    constructor
    · rintro (h | ⟨t, h1, h2⟩)
      · by_cases z : x.testBit s = true
        · rw [if_pos z, Nat.testBit_or, Bool.or_eq_true] at h
          rcases h with h | h
          · exact .inl h
          · exact .inr ⟨s, List.mem_cons_self, z, h⟩
        · rw [if_neg z] at h
          exact .inl h
      · exact .inr ⟨t, List.mem_cons_of_mem _ h1, h2⟩
    · rintro (h | ⟨t, h1, h2, h3⟩)
      · left
        split
        · rw [Nat.testBit_or, h, Bool.true_or]
        · exact h
      · rcases List.mem_cons.mp h1 with e | h1
        · subst e
          left
          rw [if_pos h2, Nat.testBit_or, h3, Bool.or_true]
        · exact .inr ⟨t, h1, h2, h3⟩
theorem join_bit {w : List Nat} {x p : Nat} : (joinN w x).testBit p = true ↔ ∃ s, s < w.length ∧ x.testBit s = true ∧ (w.getD s 0).testBit p = true := by
  unfold joinN
  rw [join_from, Nat.zero_testBit]
  constructor
  · rintro (h | ⟨s, h1, h2⟩)
    · cases h
    · exact ⟨s, List.mem_range.mp h1, h2⟩
  · rintro ⟨s, h1, h2⟩
    exact .inr ⟨s, List.mem_range.mpr h1, h2⟩
theorem bit_lt {x n : Nat} (h : ∀ p, x.testBit p = true → p < n) : x < 2 ^ n := Nat.lt_pow_two_of_testBit x fun i hi => by
  cases e : x.testBit i with
  | false => rfl
  | true =>
    have := h i e
    omega
theorem bit_ne {x : Nat} (h : x ≠ 0) : ∃ p, x.testBit p = true := Nat.exists_testBit_of_ne_zero h
def bStep (w : List Nat) (held : Nat) (a : List Nat × List (Option Nat)) : List Nat × List (Option Nat) :=
  if joinN w held = 0 then (a.1, a.2 ++ [none])
  else if joinN w held ∈ a.1 then (a.1, a.2 ++ [some (a.1.idxOf (joinN w held))])
  else (a.1 ++ [joinN w held], a.2 ++ [some a.1.length])
def bRow (ways : List (List Nat)) (held : Nat) (sets : List Nat) : List Nat × List (Option Nat) := ways.foldl (fun a w => bStep w held a) (sets, [])
def bRun (ways : List (List Nat)) : Nat → List Nat → Rws → Option (List Nat × Rws)
  | 0, _, _ => none
  | f + 1, sets, done => match sets[done.length]? with
    | none => some (sets, done)
    | some held => if 400 < (bRow ways held sets).1.length then none else bRun ways f (bRow ways held sets).1 (done ++ [(bRow ways held sets).2])
def waysN (L : Nat) (rs : Rws) (ord : List Nat) : List (List Nat) := (List.range L).map fun c => (List.range rs.length).map fun t => bitsN (ord.filter fun s => decide (nx rs s c = some t))
def startN (es : List Bool) (ord : List Nat) : Nat := bitsN (ord.filter fun s => es.getD s false)
/-! ### the machine of sets is the smallest one -/
def sw (x0 x : Nat) : Nat := if x = 0 then x0 else if x = x0 then 0 else x
theorem sw_sw (x0 x : Nat) : sw x0 (sw x0 x) = x := by
  unfold sw
  by_cases h : x = 0
  · rw [if_pos h]
    by_cases g : x0 = 0
    · rw [if_pos g, g, h]
    · rw [if_neg g, if_pos rfl, h]
  · rw [if_neg h]
    by_cases g : x = x0
    · rw [if_pos g, if_pos rfl, g]
    · rw [if_neg g, if_neg h, if_neg g]
theorem sw_lt {x0 x m : Nat} (h0 : 0 < m) (h1 : x0 < m) (h2 : x < m) : sw x0 x < m := by
  unfold sw
  split
  · exact h1
  · split
    · exact h0
    · exact h2
theorem sw_zero (x0 : Nat) : sw x0 x0 = 0 := by
  unfold sw
  split
  · assumption
  · rw [if_pos rfl]
def RSw (W : List (List Nat)) (n L x0 : Nat) : Rws := (List.range (2 ^ n)).map fun p => (List.range L).map fun c => if joinN (W.getD c []) (sw x0 p) = 0 then none else some (sw x0 (joinN (W.getD c []) (sw x0 p)))
theorem nx_RS {W : List (List Nat)} {n L x0 p c : Nat} (hp : p < 2 ^ n) (hc : c < L) : nx (RSw W n L x0) p c = if joinN (W.getD c []) (sw x0 p) = 0 then none else some (sw x0 (joinN (W.getD c []) (sw x0 p))) := by
  unfold RSw
  rw [nx_map (List.getElem?_range hp), List.getD_eq_getElem?_getD, List.getElem?_map, List.getElem?_range hc]
  rfl
section
variable {rs : Rows} {es : List Bool} {L : Nat} {ord : List Nat}
theorem ways_len : (waysN L rs ord).length = L := by
  unfold waysN
  rw [List.length_map, List.length_range]
theorem ways_at {c : Nat} (hc : c < L) : (waysN L rs ord).getD c [] = (List.range rs.length).map fun t => bitsN (ord.filter fun s => decide (nx rs s c = some t)) := by
  unfold waysN
  rw [List.getD_eq_getElem?_getD, List.getElem?_map, List.getElem?_range hc]
  rfl
theorem way_bit {c s p : Nat} (hc : c < L) (hs : s < rs.length) : (((waysN L rs ord).getD c []).getD s 0).testBit p = true ↔ p ∈ ord ∧ nx rs p c = some s := by
  rw [ways_at hc, List.getD_eq_getElem?_getD, List.getElem?_map, List.getElem?_range hs]
  show (bitsN _).testBit p = true ↔ _
  rw [bits_bit, decide_eq_true_eq, List.mem_filter, decide_eq_true_eq]
theorem joined_bit (M : MOk L rs es) {c x p : Nat} (hc : c < L) : (joinN ((waysN L rs ord).getD c []) x).testBit p = true ↔ p ∈ ord ∧ ∃ s, nx rs p c = some s ∧ x.testBit s = true := by
  rw [join_bit]
  have hl : ((waysN L rs ord).getD c []).length = rs.length := by rw [ways_at hc, List.length_map, List.length_range]
  rw [hl]
  constructor
  · rintro ⟨s, h1, h2, h3⟩
    obtain ⟨h4, h5⟩ := (way_bit hc h1).mp h3
    exact ⟨h4, s, h5, h2⟩
  · rintro ⟨h1, s, h2, h3⟩
    obtain ⟨_, _, row, hr, hm⟩ := nx_lt M.row h2
    have hs := M.tgt row hr s hm
    exact ⟨s, hs, h3, (way_bit hc hs).mpr ⟨h1, h2⟩⟩
theorem joined_lt (M : MOk L rs es) (O : IsOrd rs ord) {c x : Nat} (hc : c < L) : joinN ((waysN L rs ord).getD c []) x < 2 ^ rs.length := bit_lt fun p hp => O.lt p ((joined_bit M hc).mp hp).1
theorem start_bit {p : Nat} : (startN es ord).testBit p = true ↔ p ∈ ord ∧ es.getD p false = true := by
  unfold startN
  rw [bits_bit, decide_eq_true_eq, List.mem_filter]
theorem start_lt (O : IsOrd rs ord) : startN es ord < 2 ^ rs.length := bit_lt fun p hp => O.lt p (start_bit.mp hp).1
/-- what is there while it is made -/
structure BI (W : List (List Nat)) (n L x0 : Nat) (sets : List Nat) (done : Rws) (row : List (Option Nat)) : Prop where
  ni : NI (RSw W n L x0) L (fun p => some (sw x0 p)) (sets.map (sw x0)) sets done row
  lt : ∀ x ∈ sets, x < 2 ^ n
  nz : x0 ≠ 0 → ∀ x ∈ sets, x ≠ 0
theorem map_at {f : Nat → Nat} {xs : List Nat} {i x : Nat} (h : xs[i]? = some x) : (xs.map f)[i]? = some (f x) := by rw [List.getElem?_map, h]; rfl
theorem BI.step {W : List (List Nat)} {n x0 held : Nat} {sets : List Nat} {done : Rws} {row : List (Option Nat)} (lt : ∀ c x, c < L → joinN (W.getD c []) x < 2 ^ n) (l0 : x0 < 2 ^ n) (h : BI W n L x0 sets done row) (hh : sets[done.length]? = some held) (hr : row.length < L) :
    BI W n L x0 (bStep (W.getD row.length []) held (sets, row)).1 done (bStep (W.getD row.length []) held (sets, row)).2 := by
  have hx := h.lt held (List.mem_of_getElem? hh)
  have p0 : 0 < 2 ^ n := Nat.two_pow_pos n
  have hn := nx_RS (W := W) (x0 := x0) (sw_lt p0 l0 hx) hr
  rw [sw_sw] at hn
  have hj := lt row.length held hr
  unfold bStep
  generalize joinN (W.getD row.length []) held = b at *
  have hp := map_at (f := sw x0) hh
  by_cases z : b = 0
  · rw [if_pos z]
    rw [if_pos z] at hn
    refine ⟨h.ni.none_ fun p t e1 e2 => ?_, h.lt, h.nz⟩
    rw [hp] at e1
    cases e1
    rw [hn] at e2
    cases e2
  · rw [if_neg z]
    rw [if_neg z] at hn
    have hb : (fun p => some (sw x0 p)) (sw x0 b) = some b := congrArg some (sw_sw x0 b)
    by_cases m : b ∈ sets
    · rw [if_pos m]
      exact ⟨h.ni.some_ hp hn hb (at_idx m), h.lt, h.nz⟩
    · rw [if_neg m]
      have := h.ni.fresh hp hn hb m
      rw [List.length_map] at this
      refine ⟨by rw [List.map_append]; exact this, fun x q => ?_, fun k x q => ?_⟩
      · rcases List.mem_append.mp q with q | q
        · exact h.lt x q
        · rw [List.mem_singleton.mp q]
          exact hj
      · rcases List.mem_append.mp q with q | q
        · exact h.nz k x q
        · rw [List.mem_singleton.mp q]
          exact z
theorem step_row {w : List Nat} {held : Nat} {sets : List Nat} {row : List (Option Nat)} : (bStep w held (sets, row)).2.length = row.length + 1 ∧ ∃ more, (bStep w held (sets, row)).1 = sets ++ more := by
  unfold bStep
  split
  · exact ⟨List.length_append, [], (List.append_nil _).symm⟩
  · split
    · exact ⟨List.length_append, [], (List.append_nil _).symm⟩
    · exact ⟨List.length_append, _, rfl⟩
theorem BI.row {W : List (List Nat)} {n x0 held : Nat} {done : Rws} (lt : ∀ c x, c < L → joinN (W.getD c []) x < 2 ^ n) (l0 : x0 < 2 ^ n) (wl : W.length = L) : ∀ (ws : List (List Nat)) (sets : List Nat) (row : List (Option Nat)), BI W n L x0 sets done row → sets[done.length]? = some held → W.drop row.length = ws → row.length ≤ L →
    BI W n L x0 (ws.foldl (fun a w => bStep w held a) (sets, row)).1 done (ws.foldl (fun a w => bStep w held a) (sets, row)).2 ∧ (ws.foldl (fun a w => bStep w held a) (sets, row)).2.length = L ∧ ∃ more, (ws.foldl (fun a w => bStep w held a) (sets, row)).1 = sets ++ more
  | [], sets, row, h, hh, hw, hr => by
    have := congrArg List.length hw
    rw [List.length_drop, List.length_nil] at this
    exact ⟨h, by show row.length = L; omega, [], (List.append_nil _).symm⟩
  | w :: ws, sets, row, h, hh, hw, hr => by
    have hl := congrArg List.length hw
    rw [List.length_drop, List.length_cons] at hl
    have hr' : row.length < L := by omega
    have ew : W.getD row.length [] = w := by
      rw [List.getD_eq_getElem?_getD, ← List.head?_drop, hw]
      rfl
    have h1 := h.step lt l0 hh hr'
    rw [ew] at h1
    obtain ⟨r1, more, r2⟩ := step_row (w := w) (held := held) (sets := sets) (row := row)
    rw [List.foldl_cons]
    have hh' : (bStep w held (sets, row)).1[done.length]? = some held := by
      rw [r2, List.getElem?_append_left (List.getElem?_eq_some_iff.mp hh).1]
      exact hh
    have hw' : W.drop (bStep w held (sets, row)).2.length = ws := by
      rw [r1, ← List.drop_drop, hw]
      rfl
    obtain ⟨a, b, more2, c⟩ := BI.row lt l0 wl ws _ _ h1 hh' hw' (by rw [r1]; omega)
    exact ⟨a, b, more ++ more2, by rw [← List.append_assoc, ← r2]; exact c⟩
theorem BI.turn {W : List (List Nat)} {n x0 held : Nat} {sets : List Nat} {done : Rws} (lt : ∀ c x, c < L → joinN (W.getD c []) x < 2 ^ n) (l0 : x0 < 2 ^ n) (wl : W.length = L) (h : BI W n L x0 sets done []) (hh : sets[done.length]? = some held) :
    BI W n L x0 (bRow W held sets).1 (done ++ [(bRow W held sets).2]) [] ∧ ∃ more, (bRow W held sets).1 = sets ++ more := by
  obtain ⟨a, b, more, c⟩ := BI.row (held := held) lt l0 wl W sets [] h hh rfl (Nat.zero_le _)
  refine ⟨⟨a.ni.whole b ?_, a.lt, a.nz⟩, more, c⟩
  rw [List.length_map]
  have := (List.getElem?_eq_some_iff.mp hh).1
  show done.length < (List.foldl (fun a w => bStep w held a) (sets, []) W).1.length
  rw [c, List.length_append]
  omega
theorem BI.run_ {W : List (List Nat)} {n x0 : Nat} (lt : ∀ c x, c < L → joinN (W.getD c []) x < 2 ^ n) (l0 : x0 < 2 ^ n) (wl : W.length = L) : ∀ (f : Nat) (sets : List Nat) (done : Rws) {sets' : List Nat} {done' : Rws}, BI W n L x0 sets done [] → bRun W f sets done = some (sets', done') → BI W n L x0 sets' done' [] ∧ done'.length = sets'.length ∧ ∃ more, sets' = sets ++ more
  | 0, sets, done, sets', done', h, e => by cases e
  | f + 1, sets, done, sets', done', h, e => by
    unfold bRun at e
    cases hh : sets[done.length]? with
    | none =>
      rw [hh] at e
      cases e
      have l := h.ni.lt
      rw [List.length_map] at l
      have := List.getElem?_eq_none_iff.mp hh
      exact ⟨h, by omega, [], (List.append_nil _).symm⟩
    | some held =>
      rw [hh] at e
      obtain ⟨h1, more, hm⟩ := h.turn lt l0 wl hh
      by_cases z : 400 < (bRow W held sets).1.length
      · simp only [if_pos z] at e
        cases e
      · simp only [if_neg z] at e
        obtain ⟨a, b, more2, c⟩ := BI.run_ lt l0 wl f _ _ h1 e
        exact ⟨a, b, more ++ more2, by rw [c, hm, List.append_assoc]⟩
theorem bi_start {W : List (List Nat)} {n x0 : Nat} (l0 : x0 < 2 ^ n) : BI W n L x0 [x0] [] [] where
  ni := by
    have := ni_start (rs := RSw W n L x0) (L := L) (bl := fun p => some (sw x0 p)) (b0 := x0) (by show some (sw x0 0) = _; unfold sw; rw [if_pos rfl])
    show NI _ _ _ [sw x0 x0] [x0] [] []
    rw [sw_zero]
    exact this
  lt := fun x hx => by rw [List.mem_singleton.mp hx]; exact l0
  nz := fun k x hx => by rw [List.mem_singleton.mp hx]; exact k
end
/-! ### what comes out of it -/
section
variable {rs : Rows} {es : List Bool} {L : Nat} {ord : List Nat}
def endsN (sets : List Nat) : List Bool := sets.map fun x => x.testBit 0
theorem smallest_self {out : Rws} {oe : List Bool} {M : Nat → Nat → Prop} (h : RV rs L M out oe) (l1 : 1 ≤ out.length) (le : oe.length = out.length) (ne : ∀ i, i < out.length → ∃ p, Reach rs p ∧ M i p) (on : ∀ i j, i < out.length → j < out.length → (∀ p, Reach rs p → (M i p ↔ M j p)) → i = j) (tg : ∀ i c j, nx out i c = some j → j < out.length)
    (od : ∀ (j : Nat), 1 ≤ j → j < out.length → ∃ (i c : Nat), i < j ∧ nx out i c = some j ∧ ∀ (i' c' j' : Nat), nx out i' c' = some j' → j ≤ j' → i < i' ∨ (i = i' ∧ c ≤ c')) : Canon out oe L (List.range out.length) out oe where
  lo := List.length_range.symm
  le := by rw [le, List.length_range]
  zero := List.getElem?_range l1
  live := fun p hp => by
    have hp := List.mem_range.mp hp
    obtain ⟨q, r, m⟩ := ne p hp
    exact h.live hp r m
  one := fun i j p q hp hq e => by
    have lp := (List.getElem?_eq_some_iff.mp hp).1
    have lq := (List.getElem?_eq_some_iff.mp hq).1
    rw [List.length_range] at lp lq
    rw [List.getElem?_range lp] at hp
    rw [List.getElem?_range lq] at hq
    cases hp
    cases hq
    exact on i j lp lq fun p r => h.eqv lp lq e p r
  wide := h.wide
  ends := fun i p hp => by
    have lp := (List.getElem?_eq_some_iff.mp hp).1
    rw [List.length_range] at lp
    rw [List.getElem?_range lp] at hp
    cases hp
    rw [List.getD_eq_getElem?_getD, List.getElem?_eq_getElem (by omega)]
    rfl
  some_ := fun i p c j hp hj => by
    have lp := (List.getElem?_eq_some_iff.mp hp).1
    rw [List.length_range] at lp
    rw [List.getElem?_range lp] at hp
    cases hp
    have lj := tg i c j hj
    obtain ⟨q, r, m⟩ := ne j lj
    exact ⟨j, j, ⟨hj, h.live lj r m⟩, List.getElem?_range lj, Eqv.refl j⟩
  none_ := fun i p c t hp _ hn w => by
    have lp := (List.getElem?_eq_some_iff.mp hp).1
    rw [List.length_range] at lp
    rw [List.getElem?_range lp] at hp
    cases hp
    have := w.1
    rw [hn] at this
    cases this
  over := fun p c t _ w => (nx_lt h.wide w.1).2.1
  ord := fun j h1 h2 => by
    rw [List.length_range] at h2
    exact od j h1 h2
theorem ends_at {sets : List Nat} {i x : Nat} (h : sets[i]? = some x) : (endsN sets).getD i false = x.testBit 0 := by
  unfold endsN
  rw [List.getD_eq_getElem?_getD, List.getElem?_map, h]
  rfl
/-- all sets that come are of lots of states -/
theorem bi_rv {sets : List Nat} {done : Rws} (M : MOk L rs es) (O : IsOrd rs ord) (h : BI (waysN L rs ord) rs.length L (startN es ord) sets done []) (hl : done.length = sets.length) : RV rs L (fun i p => (sets.getD i 0).testBit p = true) done (endsN sets) where
  wide := h.ni.wide
  wide0 := M.row
  en := fun i hi => by
    have hx : sets[i]? = some sets[i] := List.getElem?_eq_getElem (by omega)
    rw [ends_at hx, List.getD_eq_getElem?_getD, hx]
    rfl
  go := fun i c hi hc => by
    have il : i < sets.length := by omega
    have hx : sets[i]? = some sets[i] := List.getElem?_eq_getElem il
    have gx : sets.getD i 0 = sets[i] := by rw [List.getD_eq_getElem?_getD, hx]; rfl
    have lx := h.lt _ (List.getElem_mem il)
    rw [gx]
    generalize sets[i] = x at *
    have p0 : 0 < 2 ^ rs.length := Nat.two_pow_pos _
    have hn := nx_RS (W := waysN L rs ord) (x0 := startN es ord) (sw_lt p0 (start_lt (es := es) O) lx) hc
    rw [sw_sw] at hn
    have hp := map_at (f := sw (startN es ord)) hx
    have jb : ∀ p, (joinN ((waysN L rs ord).getD c []) x).testBit p = true ↔ p ∈ ord ∧ ∃ s, nx rs p c = some s ∧ x.testBit s = true := fun p => joined_bit M hc
    generalize joinN ((waysN L rs ord).getD c []) x = b at *
    cases e : nx done i c with
    | some j =>
      left
      rw [← nx_new] at e
      obtain ⟨p, t, b', e1, e2, e3, e4⟩ := h.ni.yes i c j e
      rw [hp] at e1
      cases e1
      rw [hn] at e2
      split at e2
      · cases e2
      · cases e2
        have e3 := Option.some.inj e3
        rw [sw_sw] at e3
        subst e3
        refine ⟨j, by have := (List.getElem?_eq_some_iff.mp e4).1; omega, rfl, fun p r => ?_⟩
        rw [List.getD_eq_getElem?_getD, e4]
        show b.testBit p = true ↔ _
        rw [jb]
        exact ⟨fun z => z.2, fun z => ⟨(O.mem p).mpr r, z⟩⟩
    | none =>
      right
      refine ⟨rfl, fun p s r h1 h2 => ?_⟩
      rw [← nx_new] at e
      have bit := (jb p).mpr ⟨(O.mem p).mpr r, s, h1, h2⟩
      have nb : b ≠ 0 := fun z => by
        rw [z, Nat.zero_testBit] at bit
        cases bit
      rw [if_neg nb] at hn
      have := h.ni.no i c _ _ (.inl ⟨hi, hc⟩) e hp hn
      cases this
theorem bits_zero_acc {L : Nat} {done : Rws} (h : done = [List.replicate L none]) (w : List Nat) : acc done [false] w 0 = false := by
  cases w with
  | nil => rfl
  | cons c w => exact acc_none (by rw [h]; exact nx_none_row)
theorem join_zero (w : List Nat) : joinN w 0 = 0 := Nat.eq_of_testBit_eq fun p => by
  cases e : (joinN w 0).testBit p with
  | false => rw [Nat.zero_testBit]
  | true =>
    obtain ⟨s, _, h, _⟩ := join_bit.mp e
    rw [Nat.zero_testBit] at h
    cases h
theorem run_zero (W : List (List Nat)) (f : Nat) : bRun W (f + 2) [0] [] = some ([0], [List.replicate W.length none]) := by
  have key : ∀ (ws : List (List Nat)) (row : List (Option Nat)), ws.foldl (fun a w => bStep w 0 a) ([0], row) = ([0], row ++ List.replicate ws.length none) := by
    intro ws
    induction ws with
    | nil => intro row; rw [List.foldl_nil, List.length_nil, List.replicate_zero, List.append_nil]
    | cons w ws ih =>
      intro row
      rw [List.foldl_cons]
      have : bStep w 0 ([0], row) = ([0], row ++ [none]) := by
        unfold bStep
        rw [if_pos (join_zero w)]
      rw [this, ih, List.append_assoc, List.length_cons, List.replicate_succ]
      rfl
  have hr : bRow W 0 [0] = ([0], List.replicate W.length none) := by
    unfold bRow
    rw [key]
    rfl
  show (match [0][([] : Rws).length]? with | none => some ([0], []) | some held => if 400 < (bRow W held [0]).1.length then none else bRun W (f + 1) (bRow W held [0]).1 ([] ++ [(bRow W held [0]).2])) = _
  show (if 400 < (bRow W 0 [0]).1.length then none else bRun W (f + 1) (bRow W 0 [0]).1 ([] ++ [(bRow W 0 [0]).2])) = _
  rw [hr, if_neg (by show ¬ 400 < 1; decide)]
  rfl
theorem back_made {sets : List Nat} {done : Rws} (M : MOk L rs es) (O : IsOrd rs ord) (h : bRun (waysN L rs ord) 401 [startN es ord] [] = some (sets, done)) : Smallest done (endsN sets) L done (endsN sets) ∧ RevOf rs es done (endsN sets) := by
  obtain ⟨bi, hl, more, hm⟩ := BI.run_ (fun c x hc => joined_lt M O hc) (start_lt O) ways_len 401 [startN es ord] [] (bi_start (start_lt O)) h
  have R := bi_rv M O bi hl
  have s0 : sets[0]? = some (startN es ord) := by rw [hm]; rfl
  have l1 : 1 ≤ done.length := by rw [hl, hm]; show 1 ≤ more.length + 1; omega
  have rev : RevOf rs es done (endsN sets) := R.rev l1 fun p r => by
    show (sets.getD 0 0).testBit p = true ↔ _
    rw [List.getD_eq_getElem?_getD, s0]
    show (startN es ord).testBit p = true ↔ _
    rw [start_bit]
    exact ⟨fun z => z.2, fun z => ⟨(O.mem p).mpr r, z⟩⟩
  refine ⟨?_, rev⟩
  by_cases z : startN es ord = 0
  · right
    rw [z, show (401 : Nat) = 399 + 2 from rfl, run_zero, ways_len] at h
    cases h
    refine ⟨fun ⟨w, hw⟩ => ?_, rfl, rfl⟩
    rw [show endsN [0] = [false] from rfl, bits_zero_acc rfl w] at hw
    cases hw
  · left
    have nth : ∀ i, i < done.length → sets[i]? = some (sets.getD i 0) := fun i hi => by
      rw [List.getD_eq_getElem?_getD, List.getElem?_eq_getElem (by omega)]
      rfl
    have mem : ∀ i, i < done.length → ∀ p, (sets.getD i 0).testBit p = true → p < rs.length := fun i hi p hp => by
      have := bi.lt _ (List.mem_of_getElem? (nth i hi))
      rcases Nat.lt_or_ge p rs.length with l | l
      · exact l
      · rw [Nat.testBit_lt_two_pow (Nat.lt_of_lt_of_le this (Nat.pow_le_pow_right (by omega) l))] at hp
        cases hp
    have rch : ∀ i, i < done.length → ∀ p, (sets.getD i 0).testBit p = true → Reach rs p := by
      intro i hi p hp
      by_cases i0 : i = 0
      · subst i0
        rw [List.getD_eq_getElem?_getD, s0] at hp
        exact (O.mem p).mp (start_bit.mp hp).1
      · have hj := bi.ni.ord i (by omega) (by rw [List.length_map]; omega)
        obtain ⟨i', c, _, g2, _⟩ := hj
        obtain ⟨p', t, b, e1, e2, e3, e4⟩ := bi.ni.yes i' c i g2
        rw [nth i hi] at e4
        rw [List.getElem?_map] at e1
        obtain ⟨x, hx, rfl⟩ := Option.map_eq_some_iff.mp e1
        have hc := (nx_lt (L := L) (fun r hr => by
          unfold RSw at hr
          obtain ⟨q, _, rfl⟩ := List.mem_map.mp hr
          rw [List.length_map, List.length_range]) e2).2.1
        rw [nx_RS (sw_lt (Nat.two_pow_pos _) (start_lt (es := es) O) (bi.lt x (List.mem_of_getElem? hx))) hc, sw_sw] at e2
        split at e2
        · cases e2
        · cases e2
          have e3 := Option.some.inj e3
          rw [sw_sw] at e3
          rw [Option.some.inj e4, ← e3] at hp
          exact (O.mem p).mp ((joined_bit M hc).mp hp).1
    refine ⟨_, smallest_self R l1 (by unfold endsN; rw [List.length_map, hl]) (fun i hi => ?_) (fun i j hi hj e => ?_) (fun i c j e => ?_) (fun j h1 h2 => ?_)⟩
    · obtain ⟨p, hp⟩ := bit_ne (bi.nz z _ (List.mem_of_getElem? (nth i hi)))
      exact ⟨p, rch i hi p hp, hp⟩
    · have : sets.getD i 0 = sets.getD j 0 := Nat.eq_of_testBit_eq fun p => by
        rw [Bool.eq_iff_iff]
        exact ⟨fun y => (e p (rch i hi p y)).mp y, fun y => (e p (rch j hj p y)).mpr y⟩
      exact nodup_at bi.ni.nd (nth i hi) (by rw [nth j hj, this])
    · rw [← nx_new] at e
      obtain ⟨_, _, _, _, _, _, e4⟩ := bi.ni.yes i c j e
      have := (List.getElem?_eq_some_iff.mp e4).1
      omega
    · obtain ⟨i, c, g1, g2, g3⟩ := bi.ni.ord j h1 (by rw [List.length_map]; omega)
      rw [nx_new] at g2
      refine ⟨i, c, g1, g2, fun i' c' j' q hj => ?_⟩
      rw [← nx_new] at q
      exact g3 i' c' j' q hj
/-- no error where few sets can come -/
theorem run_few {W : List (List Nat)} {n x0 N : Nat} {P : Nat → Prop} {g : Nat → Nat} (lt : ∀ c x, c < L → joinN (W.getD c []) x < 2 ^ n) (l0 : x0 < 2 ^ n) (wl : W.length = L) (cl : ∀ c x, c < L → P x → joinN (W.getD c []) x ≠ 0 → P (joinN (W.getD c []) x)) (gl : ∀ x, P x → g x < N) (gi : ∀ x y, P x → P y → g x = g y → x = y) (hN : N ≤ 400) :
    ∀ (f : Nat) (sets : List Nat) (done : Rws), BI W n L x0 sets done [] → (∀ x ∈ sets, P x) → f + done.length = 401 → done.length ≤ sets.length → ∃ r, bRun W f sets done = some r
  | 0, sets, done, h, hP, hf, hd => by
    have nd : (sets.map g).Nodup := List.pairwise_map.mpr (h.ni.nd.imp_of_mem fun {a b} ha hb ne e => ne (gi a b (hP a ha) (hP b hb) e))
    have := nodup_len nd fun y hy => by
      obtain ⟨x, hx, rfl⟩ := List.mem_map.mp hy
      exact gl x (hP x hx)
    rw [List.length_map] at this
    omega
  | f + 1, sets, done, h, hP, hf, hd => by
    unfold bRun
    cases hh : sets[done.length]? with
    | none => exact ⟨_, rfl⟩
    | some held =>
      obtain ⟨h1, more, hm⟩ := h.turn lt l0 wl hh
      have inP : ∀ (ws : List (List Nat)) (k : Nat), W.drop k = ws → ∀ (a : List Nat × List (Option Nat)), (∀ x ∈ a.1, P x) → P held → ∀ x ∈ (ws.foldl (fun a w => bStep w held a) a).1, P x := by
        intro ws
        induction ws with
        | nil => intro k _ a ha _; exact ha
        | cons w ws ih =>
          intro k hk a ha ph
          rw [List.foldl_cons]
          have ew : W.getD k [] = w := by
            rw [List.getD_eq_getElem?_getD, ← List.head?_drop, hk]
            rfl
          have kl : k < L := by
            have := congrArg List.length hk
            rw [List.length_drop, List.length_cons] at this
            omega
          refine ih (k + 1) (by rw [← List.drop_drop, hk]; rfl) _ (fun x hx => ?_) ph
          unfold bStep at hx
          split at hx
          · exact ha x hx
          · rename_i nz
            split at hx
            · exact ha x hx
            · rcases List.mem_append.mp hx with hx | hx
              · exact ha x hx
              · rw [List.mem_singleton.mp hx, ← ew]
                rw [← ew] at nz
                exact cl k held kl ph nz
      have hP2 : ∀ x ∈ (bRow W held sets).1, P x := inP W 0 rfl (sets, []) hP (hP held (List.mem_of_getElem? hh))
      have nd : ((bRow W held sets).1.map g).Nodup := List.pairwise_map.mpr (h1.ni.nd.imp_of_mem fun {a b} ha hb ne e => ne (gi a b (hP2 a ha) (hP2 b hb) e))
      have ln := nodup_len nd fun y hy => by
        obtain ⟨x, hx, rfl⟩ := List.mem_map.mp hy
        exact gl x (hP2 x hx)
      rw [List.length_map] at ln
      have dl := (List.getElem?_eq_some_iff.mp hh).1
      simp only [if_neg (show ¬ 400 < (bRow W held sets).1.length by omega)]
      refine run_few lt l0 wl cl gl gi hN f _ _ h1 hP2 (by rw [List.length_append, List.length_singleton]; omega) ?_
      rw [hm, List.length_append, List.length_append, List.length_singleton]
      omega
end
/-! ### lots of states as numbers, read -/
theorem log2_bit {h : Nat} (nz : h ≠ 0) : h.testBit h.log2 = true ∧ h - 2 ^ h.log2 = h % 2 ^ h.log2 ∧ 2 ^ h.log2 ≤ h := by
  have a := Nat.log2_self_le nz
  have b := Nat.lt_log2_self (n := h)
  rw [Nat.pow_succ] at b
  have q : h / 2 ^ h.log2 = 1 := by
    refine Nat.div_eq_of_lt_le (by omega) (by omega)
  have d := Nat.div_add_mod h (2 ^ h.log2)
  rw [q] at d
  refine ⟨?_, by omega, a⟩
  rw [Nat.testBit_eq_decide_div_mod_eq, q]
  rfl
theorem less_bit {h : Nat} (nz : h ≠ 0) (s : Nat) : (h - 2 ^ h.log2).testBit s = true ↔ h.testBit s = true ∧ s ≠ h.log2 := by
  obtain ⟨_, e, _⟩ := log2_bit nz
  rw [e, Nat.testBit_mod_two_pow, Bool.and_eq_true, decide_eq_true_eq]
  constructor
  · rintro ⟨a, b⟩
    exact ⟨b, by omega⟩
  · rintro ⟨a, b⟩
    refine ⟨?_, a⟩
    rcases Nat.lt_trichotomy s h.log2 with l | l | l
    · exact l
    · exact absurd l b
    · have h2 := Nat.lt_log2_self (n := h)
      rw [Nat.testBit_lt_two_pow (Nat.lt_of_lt_of_le h2 (Nat.pow_le_pow_right (by omega) l))] at a
      cases a
structure JI (w : List Nat) (x held found : Nat) : Prop where
  sub : ∀ s, held.testBit s = true → x.testBit s = true
  fd : ∀ p, found.testBit p = true ↔ ∃ s, s < w.length ∧ (x.testBit s = true ∧ held.testBit s = false) ∧ (w.getD s 0).testBit p = true
theorem ji_start {w : List Nat} {x : Nat} : JI w x x 0 := ⟨fun _ h => h, fun p => ⟨fun h => (by rw [Nat.zero_testBit] at h; cases h), fun ⟨s, _, ⟨h1, h2⟩, _⟩ => (by rw [h1] at h2; cases h2)⟩⟩
theorem JI.turn {w : List Nat} {x held found : Nat} (h : JI w x held found) (nz : held ≠ 0) (hl : held.log2 < w.length) : JI w x (held - 2 ^ held.log2) (found ||| w.getD held.log2 0) := by
  obtain ⟨b, _, _⟩ := log2_bit nz
  refine ⟨fun s hs => h.sub s ((less_bit nz s).mp hs).1, fun p => ?_⟩
  rw [Nat.testBit_or, Bool.or_eq_true, h.fd]
  constructor
  · rintro (⟨s, h1, ⟨h2, h3⟩, h4⟩ | h4)
    · refine ⟨s, h1, ⟨h2, ?_⟩, h4⟩
      cases e : (held - 2 ^ held.log2).testBit s with
      | false => rfl
      | true =>
        rw [((less_bit nz s).mp e).1] at h3
        cases h3
    · refine ⟨held.log2, hl, ⟨h.sub _ b, ?_⟩, h4⟩
      cases e : (held - 2 ^ held.log2).testBit held.log2 with
      | false => rfl
      | true => exact absurd rfl ((less_bit nz _).mp e).2
  · rintro ⟨s, h1, ⟨h2, h3⟩, h4⟩
    by_cases z : s = held.log2
    · right
      rw [← z]
      exact h4
    · left
      refine ⟨s, h1, ⟨h2, ?_⟩, h4⟩
      cases e : held.testBit s with
      | false => rfl
      | true =>
        rw [(less_bit nz s).mpr ⟨e, z⟩] at h3
        cases h3
theorem JI.done {w : List Nat} {x found : Nat} (h : JI w x 0 found) : found = joinN w x := Nat.eq_of_testBit_eq fun p => by
  rw [Bool.eq_iff_iff, h.fd, join_bit]
  constructor
  · rintro ⟨s, h1, ⟨h2, _⟩, h4⟩
    exact ⟨s, h1, h2, h4⟩
  · rintro ⟨s, h1, h2, h4⟩
    exact ⟨s, h1, ⟨h2, Nat.zero_testBit _⟩, h4⟩
theorem intBits_nat {n : Nat} (h : n ≠ 0) : ((Builtin.Int.intBits (n : Int) : Nat) : Int) - 1 = ((n.log2 : Nat) : Int) := by
  unfold Builtin.Int.intBits
  rw [if_neg (by simpa using h), Int.natAbs_natCast]
  omega
section
variable {X : Cx}
theorem ip_orN : PIp X .BitOr (fun x y H Q => ∃ n m : Nat, x = .int (n : Int) ∧ y = .int (m : Int) ∧ Q (.int ((n ||| m : Nat) : Int)) H) := by
  intro pins s σ H x y v u Q I rx ry h
  obtain ⟨n, m, rfl, rfl, q⟩ := h
  have e : Builtin.bitOr (n : Int) (m : Int) = ((n ||| m : Nat) : Int) := by
    rw [bitOr_nn (Int.natCast_nonneg _) (Int.natCast_nonneg _), Int.toNat_natCast, Int.toNat_natCast]
  rw [← e] at q
  exact iop_or pins s σ H _ _ v u Q I rx ry ⟨_, _, rfl, rfl, q⟩
theorem op_bit1 : OpR X (binaryOp .LShift) (fun x y H Q => ∃ k : Nat, x = .int 1 ∧ y = .int (k : Int) ∧ k ≤ 134217727 ∧ Q (.int ((2 ^ k : Nat) : Int)) H) := by
  intro pins s σ H x y v u Q I rx ry h
  obtain ⟨k, rfl, rfl, c, q⟩ := h
  rw [PySem.W.kbt_cast] at q
  exact op_oneShl pins s σ H _ _ v u Q I rx ry ⟨k, rfl, rfl, c, q⟩
end
theorem set_then {v : V} {i : Nat} {u : TS} {D : Ends} {σ : L2.St} {H : Hp} (h : u D (σ.set i (some v)) H) : tSeq (tAsg (tC v) (gName i)) u D σ H := h

section
variable {P : Program} {w : World} {K : PySem.W.Frag} {mg : Str → Option Value} {base : Heap}
theorem scBits : FnScope ["states", "held", "state"] ["states"] (defScope sBits) := ⟨rfl, rfl, rfl, by decide +kernel, rfl, by decide +kernel, by decide +kernel⟩
def spBits : Sp := fun vs H Q _ => ∃ (p : Addr) (xs : List Nat), vs = [.ref p] ∧ H p = some (.lst (xs.map natV)) ∧ (∀ x ∈ xs, x ≤ 400) ∧ Q (.int ((bitsN xs : Nat) : Int)) H
theorem ok_bits {f : Addr} {fd : FuncData} (F : Fun K "bits" "bits" sBits f fd) (T : Mg mg) : FnOk P w K mg base CX0 1 f fd ["states"] spBits := by
  refine F.ok scBits (fun vs H Q E h => ?_) (fun cdv A outer s H vs Q E hr h => ?_)
  · obtain ⟨p, xs, rfl, _⟩ := h
    rfl
  · obtain ⟨p, xs, rfl, hp, x4, k⟩ := h
    refine ⟨_, (pss_cons (ps_set (i := 1) scBits.nd rfl (.inl rfl) pe_int)
      (pss_cons (ps_for PassesOwn.never rfl (pi_list (pv 0)) (pg_name (i := 2) scBits.nd rfl (.inl rfl)) (pss_one (ps_aug (i := 1) scBits.nd rfl (.inl rfl) (pe_op op_bit1 pe_int (pv 2)) ip_orN)))
      (pss_one (ps_ret (pv 1))))), ?_⟩
    refine ⟨_, rfl, p, rfl, ⟨_, SqL.of hp⟩, ?_⟩
    refine for_list (K := K) (a := p) (xs := xs.map natV) (fun i σ H' => (∃ y : Option V, σ = [some (.ref p), some (.int (((xs.take i).foldl (fun h s => h ||| 2 ^ s) 0 : Nat) : Int)), y]) ∧ H' = H) ⟨⟨_, rfl⟩, rfl⟩ (fun i σ H' _ q => by rw [q.2]; exact SqL.of hp) ?_ ?_
    · rintro i x σ H1 hx ⟨⟨y, rfl⟩, rfl⟩
      obtain ⟨u, hu, rfl⟩ := natV_of hx
      have u4 := x4 u (List.mem_of_getElem? hu)
      refine ⟨_, rfl, _, rfl, u, rfl, rfl, by omega, _, _, rfl, rfl, ⟨some (.int (u : Int)), ?_⟩, rfl⟩
      rw [List.take_add_one, hu, List.foldl_append]
      rfl
    · rintro σ H1 ⟨⟨y, rfl⟩, rfl⟩
      rw [List.length_map, List.take_length]
      exact ⟨_, rfl, k⟩
end
section
variable {P : Program} {w : World} {K : PySem.W.Frag} {mg : Str → Option Value} {base : Heap}
theorem scJoined : FnScope ["ways", "held", "found", "state"] ["ways", "held"] (defScope sJoined) := ⟨rfl, rfl, rfl, by decide +kernel, rfl, by decide +kernel, by decide +kernel⟩
def spJoined : Sp := fun vs H Q _ => ∃ (p : Addr) (w : List Nat) (x : Nat), vs = [.ref p, .int (x : Int)] ∧ H p = some (.lst (w.map natV)) ∧ w.length ≤ 400 ∧ x < 2 ^ w.length ∧ Q (.int ((joinN w x : Nat) : Int)) H
theorem ok_joined {f : Addr} {fd : FuncData} (F : Fun K "joined_bits" "joined_bits" sJoined f fd) (T : Mg mg) : FnOk P w K mg base CX0 1 f fd ["ways", "held"] spJoined := by
  refine F.ok scJoined (fun vs H Q E h => ?_) (fun cdv A outer s H vs Q E hr h => ?_)
  · obtain ⟨p, w, x, rfl, _⟩ := h
    rfl
  · obtain ⟨p, ws, x, rfl, hp, w4, xl, k⟩ := h
    refine ⟨_, (pss_cons (ps_set (i := 2) scJoined.nd rfl (.inl rfl) pe_int)
      (pss_cons (ps_while PassesOwn.never (pt_truth (pv 1) (fun _ => rfl)) (pss_cons (ps_set (i := 3) scJoined.nd rfl (.inl rfl) (pe_op op_sub (pe_bits (pv 1)) pe_int))
      (pss_cons (ps_aug (i := 1) scJoined.nd rfl (.inl rfl) (pe_op op_bit1 pe_int (pv 3)) ip_sub)
      (pss_one (ps_aug (i := 2) scJoined.nd rfl (.inl rfl) (pe_ix (r := rIxL K) ix_list (pv 0) (pv 3) (fun _ _ => rfl)) ip_orN)))))
      (pss_one (ps_ret (pv 2))))), ?_⟩
    refine set_then ?_
    refine while_by (fun σ H' => ∃ (hl fd : Nat) (y : Option V), σ = [some (.ref p), some (.int (hl : Int)), some (.int (fd : Int)), y] ∧ H' = H ∧ JI ws x hl fd ∧ hl < 2 ^ ws.length)
      (fun (σ : List (Option V)) (_ : Hp) => match σ[1]? with
        | some (some (V.int i)) => i.toNat
        | _ => 0) ⟨x, 0, none, rfl, rfl, ji_start, xl⟩ ?_ ?_
    · rintro σ H1 ⟨hl, fd, y, rfl, rfl, J, lt⟩
      refine ⟨_, rfl, ((hl : Int) != 0), rfl, ?_⟩
      by_cases z : hl = 0
      · subst z
        refine ⟨_, rfl, ?_⟩
        rw [J.done]
        exact k
      · rw [show ((hl : Int) != 0) = true by simpa using z]
        have lg : hl.log2 < ws.length := (Nat.log2_lt z).mpr lt
        obtain ⟨_, _, le⟩ := log2_bit z
        have eW : ws[hl.log2]? = some (ws.getD hl.log2 0) := by
          rw [List.getD_eq_getElem?_getD, List.getElem?_eq_getElem lg]
          rfl
        refine ⟨_, rfl, _, rfl, _, _, rfl, rfl, ?_⟩
        dsimp only
        rw [intBits_nat z]
        refine ⟨_, rfl, _, rfl, hl.log2, rfl, rfl, by omega, _, _, rfl, rfl, ?_⟩
        dsimp only
        rw [show (hl : Int) - ((2 ^ hl.log2 : Nat) : Int) = ((hl - 2 ^ hl.log2 : Nat) : Int) by omega]
        refine ⟨_, rfl, _, rfl, _, rfl, p, _, _, natV (ws.getD hl.log2 0), rfl, rfl, SqL.of hp, atI_nat (by rw [List.getElem?_map, eW]; rfl), _, _, rfl, rfl, ⟨_, _, _, rfl, rfl, J.turn z lg, by omega⟩, ?_⟩
        have := Nat.two_pow_pos hl.log2
        show (((hl - 2 ^ hl.log2 : Nat) : Int)).toNat < ((hl : Nat) : Int).toNat
        rw [Int.toNat_natCast, Int.toNat_natCast]
        omega
    · rintro σ H1 Q1 Q2 hQ ⟨x, e1, b, e2, q⟩
      exact ⟨x, e1, b, e2, hQ _ _ q⟩
end
/-! ### backwards -/
structure SI (n : Nat) (sets : List Nat) : Prop where
  nd : sets.Nodup
  lt : ∀ x ∈ sets, x < 2 ^ n
theorem SI.add {n b : Nat} {sets : List Nat} (h : SI n sets) (hb : b < 2 ^ n) (nb : b ∉ sets) : SI n (sets ++ [b]) := by
  refine ⟨?_, fun x hx => ?_⟩
  · rw [List.nodup_append]
    refine ⟨h.nd, List.nodup_cons.mpr ⟨List.not_mem_nil, List.nodup_nil⟩, fun x hx y hy e => ?_⟩
    rw [List.mem_singleton.mp hy] at e
    exact nb (e ▸ hx)
  · rcases List.mem_append.mp hx with hx | hx
    · exact h.lt x hx
    · rw [List.mem_singleton.mp hx]
      exact hb
def rowAt (W : List (List Nat)) (held : Nat) (sets : List Nat) (j : Nat) : List Nat × List (Option Nat) := (W.take j).foldl (fun a w => bStep w held a) (sets, [])
theorem rowAt_succ {W : List (List Nat)} {held : Nat} {sets : List Nat} {j : Nat} {w : List Nat} (h : W[j]? = some w) : rowAt W held sets (j + 1) = bStep w held (rowAt W held sets j) := by
  unfold rowAt
  rw [List.take_add_one, h, List.foldl_append]
  rfl
theorem rowAt_all {W : List (List Nat)} {held : Nat} {sets : List Nat} {j : Nat} (h : j = W.length) : rowAt W held sets j = bRow W held sets := by
  unfold rowAt bRow
  rw [h, List.take_length]
theorem bStep_same {w : List Nat} {held : Nat} {sets : List Nat} {row : List (Option Nat)} (h : joinN w held = 0) : bStep w held (sets, row) = (sets, row ++ [none]) := if_pos h
theorem bStep_old {w : List Nat} {held : Nat} {sets : List Nat} {row : List (Option Nat)} (h : joinN w held ≠ 0) (m : joinN w held ∈ sets) : bStep w held (sets, row) = (sets, row ++ [some (sets.idxOf (joinN w held))]) := by
  unfold bStep
  rw [if_neg h, if_pos m]
theorem bStep_new {w : List Nat} {held : Nat} {sets : List Nat} {row : List (Option Nat)} (h : joinN w held ≠ 0) (m : joinN w held ∉ sets) : bStep w held (sets, row) = (sets ++ [joinN w held], row ++ [some sets.length]) := by
  unfold bStep
  rw [if_neg h, if_neg m]
theorem bRun_on {W : List (List Nat)} {f held : Nat} {sets : List Nat} {done : Rws} (h : sets[done.length]? = some held) : bRun W (f + 1) sets done = if 400 < (bRow W held sets).1.length then none else bRun W f (bRow W held sets).1 (done ++ [(bRow W held sets).2]) := by
  show (match sets[done.length]? with | none => some (sets, done) | some held => if 400 < (bRow W held sets).1.length then none else bRun W f (bRow W held sets).1 (done ++ [(bRow W held sets).2])) = _
  rw [h]
theorem bRun_end {W : List (List Nat)} {f : Nat} {sets : List Nat} {done : Rws} (h : sets.length ≤ done.length) : bRun W (f + 1) sets done = some (sets, done) := by
  show (match sets[done.length]? with | none => some (sets, done) | some held => if 400 < (bRow W held sets).1.length then none else bRun W f (bRow W held sets).1 (done ++ [(bRow W held sets).2])) = _
  rw [List.getElem?_eq_none h]
theorem joined_lt2 {W : List (List Nat)} {n c x : Nat} (h : ∀ c x, joinN (W.getD c []) x < 2 ^ n) {w : List Nat} (hw : W[c]? = some w) : joinN w x < 2 ^ n := by
  have := h c x
  rw [List.getD_eq_getElem?_getD, hw] at this
  exact this
/-- what is written of an own error -/
structure ErT (K : PySem.W.Frag) (mg : Str → Option Value) (x : Str) (C : Addr) : Prop where
  xP : PySem.W.excIn K C [.type "ValueError", .type "Exception", .type "BaseException", .type "object"] "ValueError.__new__" = true
  gP : mg x = some (.ref C)
  kP : PySem.W.keepIn K (.ref C) = true
  bP : PySem.W.subIn K (.ref C) (.type "BaseException") = some true
  tP : PySem.W.typeIn K (.ref C) = some (.type "type")
section
variable {X : Cx}
theorem pmk_own0 {C : Addr} {bmB : List Value} {B newId initId : String} {x : Str} {p pos : Pos} (F : ExcBaseFacts B newId initId bmB) (q : PySem.W.excIn X.K C bmB newId = true) (gC : X.mg x = some (.ref C)) (kC : PySem.W.keepIn X.K (.ref C) = true) (r : Raises X (.ref C)) (hg : Gl X x)
    (hdb : (x == ("__debug__" : Str)) = false := by decide) : PMk X (.Call (.Name x p) [] [] pos) (fun _ H Q => Q (.ref C) none H) := by
  intro pins s σ H Q I h
  refine wpAny_Call_Name_kw (ld_glob I hg gC ?_ hdb)
  refine PySem.W.callWith_K0 I.kIn kC ?_
  show wpAny _ _ (call (.ref C) []) _ _ _
  obtain ⟨bm, N, nm, qn, bs, hdct, sn, sub, ab, col, dd, k0, k1, k2, k3, k5, mN, hC, hN, hni, T⟩ := exc_obj I.kIn q
  exact wpAny_call_exc_subT F T hC hN hni (fun h' e hm => mk_of I hm r h (I.hok.gone hm.new)) (Nat.zero_le _)
theorem op_odd1 : OpR X (binaryOp .BitAnd) (fun x y H Q => ∃ n : Nat, x = .int (n : Int) ∧ y = .int 1 ∧ Q (.int ((n % 2 : Nat) : Int)) H) := op_odd
end
theorem odd_bit (x : Nat) : decide ((((x % 2 : Nat) : Int)) = 1) = x.testBit 0 := by
  rw [Nat.testBit_zero, decide_eq_decide]
  omega

section
variable {P : Program} {w : World} {K : PySem.W.Frag} {mg : Str → Option Value} {base : Heap}
theorem scBack : FnScope ["machine", "letters", "rows", "ends", "order", "before", "held", "ways", "start", "state", "numbers", "sets", "done", "row", "behind"] ["machine"] (defScope sBack) := ⟨rfl, rfl, rfl, by decide +kernel, rfl, by decide +kernel, by decide +kernel⟩
def spBack (K : PySem.W.Frag) (CG : Addr) : Sp := fun vs H Q E => ∃ (L : Nat) (rs : Rows) (es : List Bool) (x : V) (B : Addr → Prop), vs = [x] ∧ Dt B K H x (machDt L rs es) ∧ MOk L rs es ∧ TB B H ∧
  ∀ ord, IsOrd rs ord → (∀ sets done, bRun (waysN L rs ord) 401 [startN es ord] [] = some (sets, done) → ∀ H' v, Same H H' → Dt B K H' v (machDt L done (endsN sets)) → Q v H') ∧ (bRun (waysN L rs ord) 401 [startN es ord] [] = none → ∀ H', Same H H' → E (.ref CG) none H')
theorem ok_back {f fRE fSO fBT fJB CG : Addr} {fd fdRE fdSO fdBT fdJB : FuncData} (F : Fun K "backwards" "backwards" sBack f fd)
    (RE : FnOk P w K mg base CX0 1 fRE fdRE ["rows"] spReached) (FRE : Fun K "reached" "reached" sReached fRE fdRE) (bRE : Binds K fdRE ["rows"] []) (gRE : mg "reached" = some (.ref fRE))
    (SO : FnOk P w K mg base CX0 1 fSO fdSO ["letters", "rows", "order"] spSources) (FSO : Fun K "sources" "sources" sSources fSO fdSO) (bSO : Binds K fdSO ["letters", "rows", "order"] []) (gSO : mg "sources" = some (.ref fSO))
    (BT : FnOk P w K mg base CX0 1 fBT fdBT ["states"] spBits) (FBT : Fun K "bits" "bits" sBits fBT fdBT) (bBT : Binds K fdBT ["states"] []) (gBT : mg "bits" = some (.ref fBT))
    (JB : FnOk P w K mg base CX0 1 fJB fdJB ["ways", "held"] spJoined) (FJB : Fun K "joined_bits" "joined_bits" sJoined fJB fdJB) (bJB : Binds K fdJB ["ways", "held"] []) (gJB : mg "joined_bits" = some (.ref fJB)) (T : Mg mg) (TG : ErT K mg "TooGreat" CG) : FnOk P w K mg base (L2.CX P w) 2 f fd ["machine"] (spBack K CG) := by
  refine F.okX scBack (fun vs H Q E h => ?_) (fun cdv A outer s H vs Q E hr h => ?_)
  · obtain ⟨L, rs, es, x, B, rfl, _⟩ := h
    rfl
  · obtain ⟨L, rs, es, x, B, rfl, hx, M, tb, k⟩ := h
    obtain ⟨tm, hms⟩ := T.mrows
    have hu1 := hu_of hr
    refine ⟨_, (pss_cons (ps_asg (pv 0) (pg_tup rfl (pgs_cons (pg_name (i := 1) scBack.nd rfl (.inl rfl)) (pgs_cons (pg_name (i := 2) scBack.nd rfl (.inl rfl)) (pgs_cons (pg_name (i := 3) scBack.nd rfl (.inr rfl)) pgs_nil)))))
      (pss_cons (ps_set (i := 4) scBack.nd rfl (.inl rfl) (pe_call RE (hr.mono (by decide)) (by rfl) gRE FRE.kp bRE .nil pass0 (pa_cons (pv 2) pa_nil)))
      (pss_cons (ps_setLc (i := 5) (own := [("ways", 7)]) (g := gName 7) (tt := tYes) rfl scBack.nd rfl rfl (sw_true rfl rfl rfl (by decide +kernel)) (pi_list (pe_call SO (hr.mono (by decide)) (by rfl) gSO FSO.kp bSO .nil pass0 (pa_cons (pv 1) (pa_cons (pv 2) (pa_cons (pv 4) pa_nil))))) (blkOk_by (N := ["machine", "letters", "rows", "ends", "order", "before", "held", "ways", "start", "state", "numbers", "sets", "done", "row", "behind"]) (sc := defScope sBack) (by decide +kernel)) (fun _ _ _ _ _ => pg_name (i := 7) scBack.nd rfl (Or.inl rfl)) (fun _ _ _ _ _ => pts_nil) (fun _ _ _ _ _ => (pe_lc (wi := iList K _) (own := [("held", 6)]) (g := gName 6) (tt := tYes) rfl scBack.nd (pi_list (pv 7)) (blkOk_by (by kernel_rfl)) (fun _ _ _ _ _ => pg_name (i := 6) scBack.nd rfl (Or.inl rfl)) (fun _ _ _ _ _ => pts_nil) (fun _ _ _ _ _ => (pe_call BT (hr.mono (by decide)) (by rfl) gBT FBT.kp bBT .nil pass0 (pa_cons (pv 6) pa_nil))))))
      (pss_cons (ps_set (i := 8) scBack.nd rfl (.inl rfl) (pe_call BT (hr.mono (by decide)) (by rfl) gBT FBT.kp bBT .nil pass0 (pa_cons (pe_lc (own := [("state", 9)]) (g := gName 9) rfl scBack.nd (pi_list (pv 4)) (blkOk_by (N := ["machine", "letters", "rows", "ends", "order", "before", "held", "ways", "start", "state", "numbers", "sets", "done", "row", "behind"]) (sc := defScope sBack) (by decide +kernel)) (fun _ _ _ _ _ => pg_name (i := 9) scBack.nd rfl (Or.inl rfl)) (fun _ _ _ _ _ => pts_one (pt_val (pe_ix (r := rIxT K) ix_tup (pv 3) (pv 9) (fun _ _ => rfl)))) (fun _ _ _ _ _ => (pv 9))) pa_nil)))
      (pss_cons (ps_set (i := 10) scBack.nd rfl (.inl rfl) (pe_disp (pps_cons (pv 8) pe_int pps_nil) (by rfl) (by rfl) (fun z => by cases z) (by decide)))
      (pss_cons (ps_set (i := 11) scBack.nd rfl (.inl rfl) (pe_lst (pa_cons (pv 8) pa_nil)))
      (pss_cons (ps_set (i := 12) scBack.nd rfl (.inl rfl) (pe_lst pa_nil))
      (pss_cons (ps_while (passes_of rfl) (pt_cmpR op_lt (pe_callB (r := rLen K) call_len_seq (by rfl) T.len PySem.boot_len (pa_cons (pv 12) pa_nil)) (pe_callB (r := rLen K) call_len_seq (by rfl) T.len PySem.boot_len (pa_cons (pv 11) pa_nil)) (nomark _)) (pss_cons (ps_set (i := 13) scBack.nd rfl (.inl rfl) (pe_lst pa_nil))
      (pss_cons (ps_for (passes_of rfl) rfl (pi_list (pv 5)) (pg_name (i := 7) scBack.nd rfl (.inl rfl)) (pss_cons (ps_set (i := 14) scBack.nd rfl (.inl rfl) (pe_call JB (hr.mono (by decide)) (by rfl) gJB FJB.kp bJB .nil pass0 (pa_cons (pv 7) (pa_cons (pe_ix (r := rIxL K) ix_list (pv 11) (pe_callB (r := rLen K) call_len_seq (by rfl) T.len PySem.boot_len (pa_cons (pv 12) pa_nil)) (fun _ _ => rfl)) pa_nil))))
      (pss_cons (ps_if (PW.pt (pw_and (pt_truth (pv 14) (fun _ => rfl)) (pw_and1 (pt_cmp (pc_dnotin hu1 (pv 14) (pv 10)))))) (pss_cons (ps_asg (pe_callB (r := rLen K) call_len_seq (by rfl) T.len PySem.boot_len (pa_cons (pv 11) pa_nil)) (pg_sub (pv 10) (pv 14) (set_dict hu1)))
      (pss_one (ps_expr (pe_bm PySem.F.plainAttrs_list PySem.F.slot_list_append PySem.F.type_list_append mt_append (pv 11) (pa_cons (pv 14) pa_nil))))) pss_nil)
      (pss_one (ps_expr (pe_bm PySem.F.plainAttrs_list PySem.F.slot_list_append PySem.F.type_list_append mt_append (pv 13) (pa_cons (pe_ifExp (pt_truth (pv 14) (fun _ => rfl)) (pe_dget hu1 (pv 10) (pv 14) (fun _ _ => rfl)) pe_non) pa_nil)))))))
      (pss_cons (ps_if (pt_cmpR op_gt (pe_callB (r := rLen K) call_len_seq (by rfl) T.len PySem.boot_len (pa_cons (pv 11) pa_nil)) (pe_glob (v := .int 400) (by rfl) hms ⟨_, rfl⟩) (nomark _)) (pss_one (ps_raise rfl (takes_of rfl rfl rfl rfl) (pmk_own0 PySem.F.excBase_ValueError TG.xP TG.gP TG.kP (raises_own TG.bP TG.tP) (by exact rfl)))) pss_nil)
      (pss_one (ps_expr (pe_bm PySem.F.plainAttrs_list PySem.F.slot_list_append PySem.F.type_list_append mt_append (pv 12) (pa_cons (pe_callTy (r := rTup K) call_tuple_of (by rfl) T.tuple PyProof.Rows.boot_tuple (pa_cons (pv 13) pa_nil)) pa_nil))))))))
      (pss_one (ps_ret (pe_tup (pa_cons (pv 1) (pa_cons (pe_callTy (r := rTup K) call_tuple_of (by rfl) T.tuple PyProof.Rows.boot_tuple (pa_cons (pv 12) pa_nil)) (pa_cons (pe_callTy (r := rTup K) call_tuple_of (by rfl) T.tuple PyProof.Rows.boot_tuple (pa_cons (pe_lc (own := [("held", 6)]) (g := gName 6) (tt := tYes) rfl scBack.nd (pi_list (pv 11)) (blkOk_by (N := ["machine", "letters", "rows", "ends", "order", "before", "held", "ways", "start", "state", "numbers", "sets", "done", "row", "behind"]) (sc := defScope sBack) (by decide +kernel)) (fun _ _ _ _ _ => pg_name (i := 6) scBack.nd rfl (Or.inl rfl)) (fun _ _ _ _ _ => pts_nil) (fun _ _ _ _ _ => (pe_cmpR op_eq (pe_op op_odd1 (pv 6) pe_int) pe_int (nomark _)))) pa_nil)) pa_nil)))))))))))))), ?_⟩
    have L1 := M.L1
    have L3 := M.L3
    have l1 := M.l1
    have l4 := M.l400
    obtain ⟨m, pr, pe, rvs, rfl, nm, MM⟩ := dt_mach hx
    have hlv := MM.hl
    refine ⟨_, rfl, m, _, rfl, .inl MM.hm, rfl, _, _, rfl, _, _, rfl, _, _, rfl, rfl, ?_⟩
    refine ⟨_, rfl, L, rs, es, m, pr, pe, rvs, rfl, M, MM, fun H1 od ord s1 nod hod O => ?_⟩
    obtain ⟨kY, kN⟩ := k ord O
    have olt := O.lt
    have oln := O.len
    have MM1 := MM.same s1
    refine ⟨_, rfl, _, rfl, _, rfl, L, rs, es, m, pr, pe, od, rvs, ord, rfl, M, MM1, hod, olt, by omega, fun H2 bf ws cs s2 nbf BA2 => ?_⟩
    refine ⟨bf, rfl, ⟨_, SqL.of BA2.top⟩, fun D nD => ?_⟩
    have wln := ways_len (rs := rs) (L := L) (ord := ord)
    have jlt : ∀ c x, joinN ((waysN L rs ord).getD c []) x < 2 ^ rs.length := fun c x => by
      rcases Nat.lt_or_ge c L with hc | hc
      · exact joined_lt M O hc
      · rw [List.getD_eq_getElem?_getD, List.getElem?_eq_none (by omega)]
        exact Nat.two_pow_pos _
    have wlen : ∀ (c : Nat) (w : List Nat), (waysN L rs ord)[c]? = some w → w.length = rs.length := fun c w h => by
      have hc := (List.getElem?_eq_some_iff.mp h).1
      have := ways_at (rs := rs) (ord := ord) (L := L) (c := c) (by omega)
      rw [List.getD_eq_getElem?_getD, h] at this
      have := congrArg List.length this
      rw [List.length_map, List.length_range] at this
      exact this
    have x0l := start_lt (es := es) O
    refine lc_list (K := K) (a := bf) (xs := ws.map V.ref) (fun i H' => Same H2 H' ∧ ∃ fas : List Addr, H' D = some (.lst (fas.map V.ref)) ∧ MemAt H' fas ((waysN L rs ord).take i) ∧ ∀ a ∈ fas, a ≠ D) ⟨same_new nD, [], upd_same, ⟨rfl, fun b a e => by cases e⟩, fun a z => absurd z List.not_mem_nil⟩ (fun i H' _ p => SqL.of (p.1 _ _ BA2.top)) ?_ ?_
    · rintro c x H3 hx3 ⟨s3, fas, hD3, ma, nD3⟩
      rw [List.getElem?_map] at hx3
      obtain ⟨wa, hwa, rfl⟩ := Option.map_eq_some_iff.mp hx3
      have cl := (List.getElem?_eq_some_iff.mp hwa).1
      rw [BA2.wl] at cl
      obtain ⟨cc, hcc⟩ : ∃ cc, cs[c]? = some cc := ⟨_, List.getElem?_eq_getElem (by rw [BA2.cl]; exact cl)⟩
      obtain ⟨g1, g2⟩ := BA2.mid c wa cc hwa hcc
      have hW : (waysN L rs ord)[c]? = some ((List.range rs.length).map fun t => bitsN (ord.filter fun s => decide (nx rs s c = some t))) := by
        unfold waysN
        rw [List.getElem?_map, List.getElem?_range cl]
        rfl
      have tk : (waysN L rs ord).take (c + 1) = (waysN L rs ord).take c ++ [(List.range rs.length).map fun t => bitsN (ord.filter fun s => decide (nx rs s c = some t))] := by
        rw [List.take_add_one, hW]
        rfl
      refine ⟨rfl, _, rfl, wa, rfl, ⟨_, SqL.of (s3 _ _ g1)⟩, fun D2 hD2 => ?_⟩
      refine lc_list (K := K) (a := wa) (xs := cc.map V.ref) (NInv (fun t : Nat => natV (bitsN (ord.filter fun s => decide (nx rs s c = some t)))) (List.range rs.length) H3 D2) (nstart hD2) (fun i H' _ p => SqL.of (p.1 _ _ (s3 _ _ g1))) ?_ ?_
      · rintro t x H4 hx4 p1
        rw [List.getElem?_map] at hx4
        obtain ⟨ta, hta, rfl⟩ := Option.map_eq_some_iff.mp hx4
        have tl := (List.getElem?_eq_some_iff.mp hta).1
        rw [g2] at tl
        have g3 := BA2.low c t cc ta hcc hta
        have e4 := p1.1 _ _ (s3 _ _ g3)
        refine ⟨rfl, _, rfl, ta, _, rfl, e4, fun x hx => ?_, ?_⟩
        · have := olt x (List.mem_filter.mp hx).1
          omega
        · exact nturn (f := fun t : Nat => natV (bitsN (ord.filter fun s => decide (nx rs s c = some t)))) (small1000 (by rw [List.length_range]; omega)) hD2 (List.getElem?_range tl) p1 (Same.refl _)
      · rintro H4 p1
        obtain ⟨s4, hl4⟩ := nend (by rw [List.length_map, List.length_range, g2]) p1
        have hD4 := s4 _ _ hD3
        have nDD : D2 ≠ D := fun z => by rw [z, hD3] at hD2; cases hD2
        have fl := ma.ln
        rw [List.length_take] at fl
        refine ⟨_, hD4, small1000 (by rw [List.length_map]; omega), fun b o e => ?_, fas ++ [D2], by rw [upd_same, List.map_append]; rfl, ?_, fun a ha => ?_⟩
        · rw [upd_ne (ne_of_none e nD)]
          exact s4 _ _ (s3 _ _ e)
        · rw [tk]
          have em : ((List.range rs.length).map fun t => natV (bitsN (ord.filter fun s => decide (nx rs s c = some t)))) = ((List.range rs.length).map fun t => bitsN (ord.filter fun s => decide (nx rs s c = some t))).map natV := by
            rw [List.map_map]
            rfl
          rw [em] at hl4
          exact ((ma.keep (W := fun _ => False) (Keep.same s4) (fun _ _ z => z)).push hl4).keep (W := fun b => b = D) (keep_store rfl) (fun a ha z => by
            rcases List.mem_append.mp ha with y | y
            · exact nD3 a y z
            · rw [List.mem_singleton.mp y] at z
              exact nDD z)
        · rcases List.mem_append.mp ha with y | y
          · exact nD3 a y
          · rw [List.mem_singleton.mp y]
            exact nDD
    · rintro H3 ⟨s3, fas, hD3, ma, nD3⟩
      rw [List.length_map, BA2.wl, List.take_of_length_le (Nat.le_of_eq wln)] at ma
      have fl := ma.ln
      have hod3 := s3 _ _ (s2 _ _ hod)
      have MM3 := MM1.same (s2.trans s3)
      refine ⟨_, rfl, od, rfl, ⟨_, SqL.of hod3⟩, fun E1 hE1 => ?_⟩
      refine lc_list (K := K) (a := od) (xs := ord.map natV) (KInv (fun s : Nat => es.getD s false) natV ord H3 E1) (kstart hE1) (fun i H' _ q => SqL.of (q.1 _ _ hod3)) ?_ ?_
      · rintro i x H4 hx4 p1
        obtain ⟨u, hu, rfl⟩ := natV_of hx4
        have ul : u < es.length := by rw [M.es]; exact olt u (List.mem_of_getElem? hu)
        refine ⟨rfl, _, rfl, _, rfl, pe, _, (u : Int), .bl (es.getD u false), rfl, rfl, .inl (MM3.same p1.1).he, atI_nat (by rw [List.getElem?_map, getD_at ul, List.getElem?_eq_getElem ul]; rfl), ?_⟩
        cases hb : es.getD u false with
        | true => exact ⟨_, rfl, _, rfl, kyes (t := fun s : Nat => es.getD s false) (small1000 (by omega)) hE1 hu hb p1 (Same.refl _)⟩
        | false => exact ⟨_, rfl, kno (t := fun s : Nat => es.getD s false) hu hb p1 (Same.refl _)⟩
      · rintro H4 p1
        obtain ⟨s4, hl4⟩ := kend (List.length_map _) p1
        refine ⟨E1, _, rfl, hl4, fun x hx => ?_, ?_⟩
        · have := olt x (List.mem_filter.mp hx).1
          omega
        have s14 := s1.trans (s2.trans (s3.trans s4))
        have hD4 := s4 _ _ hD3
        have ma4 := ma.keep (W := fun _ => False) (Keep.same s4) (fun _ _ z => z)
        have ex0 : bitsN (ord.filter fun s : Nat => es.getD s false) = startN es ord := rfl
        rw [ex0]
        have MM4 := MM3.same s4
        have tb4 := tb_same s14 tb
        clear p1 hl4
        generalize hW0 : waysN L rs ord = W at *
        generalize hx0 : startN es ord = x0 at *
        refine fun dn hdn => ⟨_, rfl, upd_same, [(.inl (x0 : Int), .int 0)], rfl, by show 1 ≤ 15; decide, ?_⟩
        rw [upd_upd]
        have t1 := same_new (o := .dK (mergeK [] [(.inl (x0 : Int), V.int 0)])) hdn
        have hd1 : (upd H4 dn (.dK (mergeK [] [(.inl (x0 : Int), V.int 0)]))) dn = some (.dK (numKv 0 [x0])) := upd_same
        generalize upd H4 dn (.dK (mergeK [] [(.inl (x0 : Int), V.int 0)])) = G1 at *
        refine ⟨_, rfl, by show 1 ≤ sizeLine; decide, fun sD hsD => ?_⟩
        have t2 := same_new (o := .lst [.int (x0 : Int)]) hsD
        have hs2 : (upd G1 sD (.lst [.int (x0 : Int)])) sD = some (.lst ([x0].map natV)) := upd_same
        have hd2 := t2 _ _ hd1
        generalize upd G1 sD (.lst [.int (x0 : Int)]) = G2 at *
        refine ⟨by show 0 ≤ sizeLine; decide, fun dl hdl => ?_⟩
        have t3 := same_new (o := .lst []) hdl
        have hl3 : (upd G2 dl (.lst [])) dl = some (.lst []) := upd_same
        have hd3 := t3 _ _ hd2
        have hs3 := t3 _ _ hs2
        generalize upd G2 dl (.lst []) = G3 at *
        have t13 := (t1.trans t2).trans t3
        have nsd : sD ≠ dn := fun z => by rw [z, hd1] at hsD; cases hsD
        have nld : dl ≠ dn := fun z => by rw [z, hd2] at hdl; cases hdl
        have nls : dl ≠ sD := fun z => by rw [z, hs2] at hdl; cases hdl
        have fr : ∀ {b : Addr} {u : HO}, H4 b = some u → b ≠ dn ∧ b ≠ sD ∧ b ≠ dl := fun {b u} e => ⟨fun z => (by rw [z] at e; rw [e] at hdn; cases hdn), fun z => (by rw [z] at e; rw [t1 _ _ e] at hsD; cases hsD), fun z => (by rw [z] at e; rw [t2 _ _ (t1 _ _ e)] at hdl; cases hdl)⟩
        have tbW : ∀ {H' : Hp}, Same H4 H' → (∃ o, H' dn = some o) → (∃ o, H' sD = some o) → (∃ o, H' dl = some o) → TB (fun b => B b ∨ b = dn ∨ b = sD ∨ b = dl) H' := fun {H'} sm h1 h2 h3 b z e => by
          rcases z with z | z | z | z
          · exact tb_same sm tb4 b z e
          · obtain ⟨o, h1⟩ := h1
            rw [z, h1] at e
            cases e
          · obtain ⟨o, h2⟩ := h2
            rw [z, h2] at e
            cases e
          · obtain ⟨o, h3⟩ := h3
            rw [z, h3] at e
            cases e
        refine while_by (fun σ H' => ∃ (sets : List Nat) (done : Rws) (f : Nat) (dvs : List V) (y6 y7 y9 y13 y14 : Option V), σ = [some (.ref m), some (.int (L : Int)), some (.ref pr), some (.ref pe), some (.ref od), some (.ref D), y6, y7, some (.int (x0 : Int)), y9, some (.ref dn), some (.ref sD), some (.ref dl), y13, y14] ∧ Same H4 H' ∧ H' dn = some (.dK (numKv 0 sets)) ∧ H' sD = some (.lst (sets.map natV)) ∧ H' dl = some (.lst dvs) ∧ DtAll (fun b => B b ∨ b = dn ∨ b = sD ∨ b = dl) K H' dvs (done.map rowDt) ∧ SI rs.length sets ∧ sets.length ≤ 400 ∧ done.length ≤ sets.length ∧ f + done.length = 401 ∧ bRun W 401 [x0] [] = bRun W f sets done)
          (fun (_ : List (Option V)) (H' : Hp) => match H' dl with
            | some (.lst xs) => 401 - xs.length
            | _ => 0) ⟨[x0], [], 401, [], none, none, none, none, none, rfl, t13, hd3, hs3, hl3, .nil, ⟨List.nodup_cons.mpr ⟨List.not_mem_nil, List.nodup_nil⟩, fun x hx => by rw [List.mem_singleton.mp hx]; exact x0l⟩, by show 1 ≤ 400; decide, Nat.zero_le _, rfl, rfl⟩ ?_ ?_
        · rintro σ H5 ⟨sets, done, f, dvs, y6, y7, y9, y13, y14, rfl, sm, hd, hp, hl, hdv, si, s400, dle, ef, er⟩
          have ldv := hdv.len
          rw [List.length_map] at ldv
          refine ⟨_, rfl, dl, _, rfl, .inl (SqL.of hl), _, rfl, sD, _, rfl, .inl (SqL.of hp), _, _, rfl, rfl, _, rfl, ite2 (fun hlt => ?_) fun hlt => ?_⟩
          · have hlt := of_decide_eq_true hlt
            rw [List.length_map] at hlt
            have hdl' : done.length < sets.length := by omega
            refine ⟨by show 0 ≤ sizeLine; decide, fun rw_ hrw => ?_⟩
            have sr := same_new (o := .lst []) hrw
            have hrw1 : (upd H5 rw_ (.lst [])) rw_ = some (.lst (([] : List (Option Nat)).map oV)) := upd_same
            have hu : sets[done.length]? = some sets[done.length] := List.getElem?_eq_getElem hdl'
            have hul := si.lt _ (List.getElem_mem hdl')
            generalize sets[done.length] = held at *
            have nrd : rw_ ≠ dn := fun z => by rw [z, hd] at hrw; cases hrw
            have nrk : rw_ ≠ sD := fun z => by rw [z, hp] at hrw; cases hrw
            have nrl : rw_ ≠ dl := fun z => by rw [z, hl] at hrw; cases hrw
            have hdv1 := same_all sr (DtAll.off hrw _ _ hdv)
            have hd := sr _ _ hd
            have hp := sr _ _ hp
            have hl0 := hl
            have hl := sr _ _ hl
            have smr := sm.trans sr
            have rwn : ∀ {b : Addr} {u : HO}, H4 b = some u → b ≠ rw_ := fun {b u} e z => by
              rw [z] at e
              rw [sm _ _ e] at hrw
              cases hrw
            generalize upd H5 rw_ (.lst []) = G4 at *
            obtain ⟨f', rfl⟩ : ∃ f', f = f' + 1 := ⟨f - 1, by omega⟩
            rw [bRun_on hu] at er
            refine ⟨_, rfl, D, rfl, ⟨_, SqL.of (smr _ _ hD4)⟩, ?_⟩
            refine for_list (K := K) (a := D) (xs := fas.map V.ref) (fun j σ H' => (∃ y7 y14 : Option V, σ = [some (.ref m), some (.int (L : Int)), some (.ref pr), some (.ref pe), some (.ref od), some (.ref D), y6, y7, some (.int (x0 : Int)), y9, some (.ref dn), some (.ref sD), some (.ref dl), some (.ref rw_), y14]) ∧ Same H4 H' ∧ ∃ (sj : List Nat) (r : List (Option Nat)), rowAt W held sets j = (sj, r) ∧ (∃ more, sj = sets ++ more) ∧ H' dn = some (.dK (numKv 0 sj)) ∧ H' sD = some (.lst (sj.map natV)) ∧ H' dl = some (.lst dvs) ∧ H' rw_ = some (.lst (r.map oV)) ∧ r.length = j ∧ SI rs.length sj ∧ sj.length ≤ sets.length + j ∧ DtAll (fun b => (B b ∨ b = dn ∨ b = sD ∨ b = dl) ∨ b = rw_) K H' dvs (done.map rowDt))
              ⟨⟨_, _, rfl⟩, smr, sets, [], rfl, ⟨[], (List.append_nil _).symm⟩, hd, hp, hl, hrw1, rfl, si, Nat.le_refl _, hdv1⟩ (fun j σ H' _ p => SqL.of (p.2.1 _ _ hD4)) ?_ ?_
            · rintro j x σ H6 hx ⟨⟨y7, y14, rfl⟩, sm2, sj, r, ej, ⟨more, em⟩, hd, hp, hl, hr2, lr, sij, slen, hdv2⟩
              rw [List.getElem?_map] at hx
              obtain ⟨wa, hwa, rfl⟩ := Option.map_eq_some_iff.mp hx
              have jl := (List.getElem?_eq_some_iff.mp hwa).1
              rw [fl, wln] at jl
              obtain ⟨wj, hwj⟩ : ∃ wj, W[j]? = some wj := ⟨_, List.getElem?_eq_getElem (by omega)⟩
              have hwm : H6 wa = some (.lst (wj.map natV)) := by
                have := sm2 _ _ (ma4.at_ j wa hwa)
                rw [List.getD_eq_getElem?_getD, hwj] at this
                exact this
              have hju : sj[done.length]? = some held := by
                rw [em, List.getElem?_append_left hdl']
                exact hu
              have wl2 := wlen j wj hwj
              have bl := joined_lt2 (x := held) jlt hwj
              have es1 := rowAt_succ (held := held) (sets := sets) hwj
              rw [ej] at es1
              refine ⟨_, rfl, _, rfl, _, rfl, dl, _, rfl, .inl (SqL.of hl), sD, _, _, natV held, rfl, rfl, SqL.of hp, atI_nat (natV_get (by rw [ldv]; exact hju)), wa, wj, held, rfl, hwm, by omega, by rw [wl2]; exact hul, ?_⟩
              have app : ∀ (e : Option Nat) (G : Hp) (sj' : List Nat), Same H4 G → rowAt W held sets (j + 1) = (sj', r ++ [e]) → (∃ more, sj' = sets ++ more) → G dn = some (.dK (numKv 0 sj')) → G sD = some (.lst (sj'.map natV)) → G dl = some (.lst dvs) → G rw_ = some (.lst (r.map oV)) → SI rs.length sj' → sj'.length ≤ sets.length + (j + 1) → DtAll (fun b => (B b ∨ b = dn ∨ b = sD ∨ b = dl) ∨ b = rw_) K G dvs (done.map rowDt) →
                  (r.map oV).length < sizeLine ∧ Same H4 (upd G rw_ (.lst (r.map oV ++ [oV e]))) ∧ ∃ (sj : List Nat) (r' : List (Option Nat)), rowAt W held sets (j + 1) = (sj, r') ∧ (∃ more, sj = sets ++ more) ∧ (upd G rw_ (.lst (r.map oV ++ [oV e]))) dn = some (.dK (numKv 0 sj)) ∧ (upd G rw_ (.lst (r.map oV ++ [oV e]))) sD = some (.lst (sj.map natV)) ∧ (upd G rw_ (.lst (r.map oV ++ [oV e]))) dl = some (.lst dvs) ∧ (upd G rw_ (.lst (r.map oV ++ [oV e]))) rw_ = some (.lst (r'.map oV)) ∧ r'.length = j + 1 ∧ SI rs.length sj ∧ sj.length ≤ sets.length + (j + 1) ∧ DtAll (fun b => (B b ∨ b = dn ∨ b = sD ∨ b = dl) ∨ b = rw_) K (upd G rw_ (.lst (r.map oV ++ [oV e]))) dvs (done.map rowDt) := fun e G sj' a1 a2 a3 a4 a5 a6 a7 a8 a9 b1 => by
                refine ⟨small1000 (by rw [List.length_map]; omega), fun b u z => ?_, sj', r ++ [e], a2, a3, by rw [upd_ne nrd.symm]; exact a4, by rw [upd_ne nrk.symm]; exact a5, by rw [upd_ne nrl.symm]; exact a6, by rw [upd_same, List.map_append]; rfl, by rw [List.length_append, lr]; rfl, a8, a9, DtAll.keep (keep_store (.inr rfl)) _ _ b1⟩
                rw [upd_ne (rwn z)]
                exact a1 _ _ z
              by_cases z : joinN wj held = 0
              · rw [bStep_same z] at es1
                obtain ⟨c1, c2⟩ := app none H6 sj sm2 es1 ⟨more, em⟩ hd hp hl hr2 sij (by omega) hdv2
                rw [z]
                refine ⟨_, rfl, false, rfl, ?_⟩
                exact ⟨_, rfl, .inl ⟨rfl, _, SqL.of hr2⟩, _, rfl, false, rfl, rw_, _, _, rfl, rfl, hr2, c1, ⟨_, _, rfl⟩, c2⟩
              · have hb : true = (((joinN wj held : Nat) : Int) != 0) := by
                  symm
                  simpa using z
                have dg : DGet H6 dn (.int ((joinN wj held : Nat) : Int)) (valV (numKv 0 sj) (.inl ((joinN wj held : Nat) : Int))) := DGet.k (k := .inl ((joinN wj held : Nat) : Int)) hd
                refine ⟨_, rfl, true, hb, ?_⟩
                refine ⟨_, rfl, _, rfl, dn, _, rfl, dg, _, rfl, ?_⟩
                by_cases hin : joinN wj held ∈ sj
                · rw [bStep_old z hin] at es1
                  have hv := numKv_at sj 0 _ _ sij.nd (at_idx hin)
                  rw [Nat.zero_add] at hv
                  rw [hv]
                  rw [hv] at dg
                  obtain ⟨c1, c2⟩ := app (some (sj.idxOf (joinN wj held))) H6 sj sm2 es1 ⟨more, em⟩ hd hp hl hr2 sij (by omega) hdv2
                  exact ⟨_, rfl, .inl ⟨rfl, _, SqL.of hr2⟩, _, rfl, true, hb, _, rfl, _, rfl, dn, _, rfl, dg, rw_, _, _, rfl, rfl, hr2, c1, ⟨_, _, rfl⟩, c2⟩
                · rw [bStep_new z hin] at es1
                  rw [numKv_no hin]
                  have sib := sij.add bl hin
                  clear hb dg
                  have hb : true = (((joinN wj held : Nat) : Int) != 0) := by
                    symm
                    simpa using z
                  generalize joinN wj held = b at *
                  have nl15 : (numKv 0 sj).length < sizeLine := small1000 (by rw [numKv_len]; omega)
                  have dp : DPut H6 dn (.int (b : Int)) (.int ((sj.map natV).length : Int)) (upd H6 dn (.dK (numKv 0 (sj ++ [b])))) := by
                    have := DPut.k (k := .inl (b : Int)) (v := .int ((sj.map natV).length : Int)) hd nl15
                    rw [List.length_map, numKv_put hin] at this
                    rw [List.length_map]
                    exact this
                  have w1 : ∀ {z : Addr} {o : HO}, z ≠ dn → H6 z = some o → (upd H6 dn (.dK (numKv 0 (sj ++ [b])))) z = some o := fun ne e => by rw [upd_ne ne]; exact e
                  have hp1 := w1 nsd hp
                  have hl1 := w1 nld hl
                  have hr1 := w1 nrd hr2
                  have hd1 : (upd H6 dn (.dK (numKv 0 (sj ++ [b])))) dn = some (.dK (numKv 0 (sj ++ [b]))) := upd_same
                  have sm1 : Same H4 (upd H6 dn (.dK (numKv 0 (sj ++ [b])))) := fun z o e => w1 (fr e).1 (sm2 _ _ e)
                  have hdv3 := DtAll.keep (keep_store (p := dn) (o := .dK (numKv 0 (sj ++ [b]))) (.inl (.inr (.inl rfl)))) _ _ hdv2
                  generalize upd H6 dn (.dK (numKv 0 (sj ++ [b]))) = G5 at *
                  refine ⟨_, rfl, sD, _, rfl, .inl (SqL.of hp), _, rfl, _, rfl, dn, G5, rfl, dp, ?_⟩
                  refine ⟨_, rfl, .inl ⟨rfl, _, SqL.of hp1⟩, _, rfl, sD, _, _, rfl, rfl, hp1, small1000 (by rw [List.length_map]; omega), ?_⟩
                  have ep : sj.map natV ++ [V.int (b : Int)] = (sj ++ [b]).map natV := by
                    rw [List.map_append]
                    rfl
                  rw [ep]
                  have w2 : ∀ {z : Addr} {o : HO}, z ≠ sD → G5 z = some o → (upd G5 sD (.lst ((sj ++ [b]).map natV))) z = some o := fun ne e => by rw [upd_ne ne]; exact e
                  have hd2 := w2 nsd.symm hd1
                  have hl2 := w2 nls hl1
                  have hr3 := w2 nrk hr1
                  have hp2 : (upd G5 sD (.lst ((sj ++ [b]).map natV))) sD = some (.lst ((sj ++ [b]).map natV)) := upd_same
                  have sm3 : Same H4 (upd G5 sD (.lst ((sj ++ [b]).map natV))) := fun z o e => w2 (fr e).2.1 (sm1 _ _ e)
                  have hdv4 := DtAll.keep (keep_store (p := sD) (o := .lst ((sj ++ [b]).map natV)) (.inl (.inr (.inr (.inl rfl))))) _ _ hdv3
                  generalize upd G5 sD (.lst ((sj ++ [b]).map natV)) = G6 at *
                  have hv := numKv_at (sj ++ [b]) 0 sj.length b sib.nd (by rw [List.getElem?_append_right (Nat.le_refl _), Nat.sub_self]; rfl)
                  rw [Nat.zero_add] at hv
                  have dg2 : DGet G6 dn (.int (b : Int)) (valV (numKv 0 (sj ++ [b])) (.inl (b : Int))) := DGet.k (k := .inl (b : Int)) hd2
                  rw [hv] at dg2
                  obtain ⟨c1, c2⟩ := app (some sj.length) G6 (sj ++ [b]) sm3 es1 ⟨more ++ [b], by rw [em, List.append_assoc]⟩ hd2 hp2 hl2 hr3 sib (by rw [List.length_append, List.length_singleton]; omega) hdv4
                  exact ⟨_, rfl, .inl ⟨rfl, _, SqL.of hr3⟩, _, rfl, true, hb, _, rfl, _, rfl, dn, _, rfl, dg2, rw_, _, _, rfl, rfl, hr3, c1, ⟨_, _, rfl⟩, c2⟩
            · rintro σ H6 ⟨⟨y7, y14, rfl⟩, sm2, sj, r, ej, ⟨more, em⟩, hd, hp, hl, hr2, lr, sij, slen, hdv2⟩
              rw [List.length_map] at ej lr slen
              rw [rowAt_all (by omega)] at ej
              rw [ej] at er
              refine ⟨_, rfl, sD, _, rfl, .inl (SqL.of hp), _, _, rfl, rfl, _, rfl, ite2 (fun hz => ?_) fun hz => ?_⟩
              · have hz := of_decide_eq_true hz
                rw [List.length_map] at hz
                rw [if_pos (by show 400 < sj.length; omega)] at er
                exact kN er H6 (s14.trans sm2)
              · have hz : ¬ ((400 : Int) < ((sj.map natV).length : Int)) := fun y => hz (decide_eq_true y)
                rw [List.length_map] at hz
                rw [if_neg (by show ¬ 400 < sj.length; omega)] at er
                refine ⟨_, rfl, .inl ⟨rfl, _, SqL.of hl⟩, _, rfl, rw_, _, rfl, .inl ⟨SqL.of hr2, fun t nt => ?_⟩⟩
                have st := same_new (o := .tup (r.map oV)) nt
                have hl2 := st _ _ hl
                refine ⟨dl, _, _, rfl, rfl, hl2, small1000 (by omega), ?_⟩
                have tbw := tbW sm2 ⟨_, hd⟩ ⟨_, hp⟩ ⟨_, hl⟩
                have hdv3 : DtAll (fun b => B b ∨ b = dn ∨ b = sD ∨ b = dl) K (upd H6 t (.tup (r.map oV))) (dvs ++ [.ref t]) ((done ++ [r]).map rowDt) := by
                  rw [List.map_append]
                  exact (same_all st (DtAll.weak (fun b z => .inl z) _ _ hdv2)).append (.cons (.tup (tb_off tbw nt) (.inl upd_same) (dt_cs o_cs r)) .nil)
                refine ⟨⟨sj, done ++ [r], f', dvs ++ [.ref t], _, _, _, _, _, rfl, fun z o e => ?_, ?_, ?_, upd_same, DtAll.keep (keep_store (.inr (.inr (.inr rfl)))) _ _ hdv3, sij, by omega, ?_, ?_, er⟩, ?_⟩
                · rw [upd_ne (fr e).2.2]
                  exact st _ _ (sm2 _ _ e)
                · rw [upd_ne nld.symm]
                  exact st _ _ hd
                · rw [upd_ne nls.symm]
                  exact st _ _ hp
                · rw [em, List.length_append, List.length_append, List.length_singleton]
                  omega
                · rw [List.length_append, List.length_singleton]
                  omega
                · rw [upd_same, hl0]
                  show 401 - (dvs ++ [V.ref t]).length < 401 - dvs.length
                  rw [List.length_append, List.length_singleton]
                  omega
          · have hge : ¬ ((dvs.length : Int) < ((sets.map natV).length : Int)) := fun z => hlt (decide_eq_true z)
            rw [List.length_map] at hge
            obtain ⟨f', rfl⟩ : ∃ f', f = f' + 1 := ⟨f - 1, by omega⟩
            rw [bRun_end (W := W) (f := f') (sets := sets) (done := done) (by omega)] at er
            have tbw := tbW sm ⟨_, hd⟩ ⟨_, hp⟩ ⟨_, hl⟩
            refine ⟨_, rfl, _, rfl, dl, _, rfl, .inl ⟨SqL.of hl, fun t1' nt1 => ?_⟩⟩
            have st1 := same_new (o := .tup dvs) nt1
            have dt1 : Dt B K (upd H5 t1' (.tup dvs)) (.ref t1') (.tuple (done.map rowDt)) := .tup (tb_off (tb_same sm tb4) nt1) (.inl upd_same) (same_all st1 (DtAll.weak (fun b z => .inl z) _ _ hdv))
            have hp1 := st1 _ _ hp
            have sm1 := sm.trans st1
            generalize upd H5 t1' (.tup dvs) = G5 at *
            refine ⟨_, rfl, sD, rfl, ⟨_, SqL.of hp1⟩, fun D4 hD4' => ?_⟩
            refine lc_list (K := K) (a := sD) (xs := sets.map natV) (NInv (fun x : Nat => V.bl (x.testBit 0)) sets G5 D4) (nstart hD4') (fun i H' _ q => SqL.of (q.1 _ _ hp1)) ?_ ?_
            · rintro i x H6 hx p1
              obtain ⟨u, hu, rfl⟩ := natV_of hx
              refine ⟨rfl, _, rfl, u, rfl, rfl, rfl, ?_⟩
              have eb : decide (V.int ((u % 2 : Nat) : Int) = V.int 1) = u.testBit 0 := by
                rw [dec_int, ← odd_bit]
                rfl
              rw [eb]
              exact nturn (f := fun x : Nat => V.bl (x.testBit 0)) (small1000 (by omega)) hD4' hu p1 (Same.refl _)
            · rintro H6 p1
              obtain ⟨s6, hl6⟩ := nend (List.length_map _) p1
              refine ⟨D4, _, rfl, .inl ⟨SqL.of hl6, fun t2' nt2 => ?_⟩⟩
              have st2 := same_new (o := .tup (sets.map fun x : Nat => V.bl (x.testBit 0))) nt2
              have tb6 := tb_same (sm1.trans s6) tb4
              refine ⟨by show 3 ≤ sizeLine; decide, fun r nr => ?_⟩
              have st3 := same_new (o := .tup [.int (L : Int), .ref t1', .ref t2']) nr
              have s24 := s6.trans (st2.trans st3)
              have ee : (sets.map fun x : Nat => V.bl (x.testBit 0)) = (endsN sets).map V.bl := by
                unfold endsN
                rw [List.map_map]
                rfl
              refine kY sets done er _ (.ref r) (s14.trans (sm1.trans s24)) (.tup (tb_off (tb_same st2 tb6) nr) (.inl upd_same) (.cons (.int _) (.cons (same_dt s24 dt1) (.cons (.tup (tb_off tb6 nt2) (same_rd st3 (.inl upd_same)) ?_) .nil))))
              rw [ee]
              exact dt_cs (fun x => Dt.bl x) _
        · rintro σ H1 Q1 Q2 hQ ⟨x, e1, p0, ys0, e2, e3, y, e4, p, ys, e5, e6, i, j, e7, e8, b, e9, q⟩
          exact ⟨x, e1, p0, ys0, e2, e3, y, e4, p, ys, e5, e6, i, j, e7, e8, b, e9, hQ _ _ q⟩
end
/-! ### words of machines -/
theorem occ_abc {c : Nat} (h : c < 3) : Builtin.Str.occurrences "abc" ⟨#[97 + c]⟩ 0 ("abc" : Str).length 1 = [c] := by
  have : c = 0 ∨ c = 1 ∨ c = 2 := by omega
  rcases this with rfl | rfl | rfl <;> decide +kernel
theorem run_append {rs : Rws} {b : List Nat} : ∀ (a : List Nat) (s : Nat), run rs (a ++ b) s = (run rs a s).bind (run rs b)
  | [], s => rfl
  | c :: a, s => by
    show run rs (c :: (a ++ b)) s = _
    rw [run_cons, run_cons]
    cases nx rs s c with
    | none => rfl
    | some t => exact run_append a t
theorem run_take {rs : Rws} {w : List Nat} {i c s : Nat} (h : w[i]? = some c) : run rs (w.take (i + 1)) s = (run rs (w.take i) s).bind fun u => nx rs u c := by
  rw [List.take_add_one, h]
  exact run_snoc _ _
theorem run_stop {rs : Rws} {es : List Bool} {w : List Nat} {i : Nat} (h : run rs (w.take i) 0 = none) : acc rs es w 0 = false := by
  cases e : acc rs es w 0 with
  | false => rfl
  | true =>
    obtain ⟨t, h1, _⟩ := (acc_run w 0).mp e
    rw [← List.take_append_drop i w, run_append, h] at h1
    cases h1
theorem MOk.nx_lt {L : Nat} {rs : Rows} {es : List Bool} (M : MOk L rs es) {s c t : Nat} (h : nx rs s c = some t) : t < rs.length := by
  obtain ⟨_, _, row, hr, hm⟩ := Ver.nx_lt M.row h
  exact M.tgt row hr t hm
theorem MOk.run_lt {L : Nat} {rs : Rows} {es : List Bool} (M : MOk L rs es) {t : Nat} (w : List Nat) (h : run rs w 0 = some t) : t < rs.length := M.reach_lt t (reach_run.mpr ⟨w, h⟩)
theorem acc_end {rs : Rws} {es : List Bool} {w : List Nat} {t : Nat} (h : run rs w 0 = some t) : acc rs es w 0 = es.getD t false := by
  rw [Bool.eq_iff_iff, acc_run, h]
  exact ⟨fun ⟨_, e, z⟩ => by cases e; exact z, fun z => ⟨t, rfl, z⟩⟩
def endO (es : List Bool) : Option Nat → Bool
  | none => false
  | some u => es.getD u false
theorem endO_acc {rs : Rws} {es : List Bool} {w : List Nat} : endO es (run rs w 0) = acc rs es w 0 := by
  cases e : run rs w 0 with
  | none =>
    have := run_stop (es := es) (w := w) (i := w.length) (rs := rs) (by rw [List.take_length]; exact e)
    rw [this]
    rfl
  | some t => exact (acc_end e).symm
theorem row_oV {L : Nat} {rs : Rows} {es : List Bool} (M : MOk L rs es) {u c : Nat} (hu : u < rs.length) (hc : c < L) : ∃ row, rs[u]? = some row ∧ (row.map oV)[c]? = some (oV (nx rs u c)) := by
  refine ⟨rs[u], List.getElem?_eq_getElem hu, ?_⟩
  have hr := M.row _ (List.getElem_mem hu)
  have hc' : c < rs[u].length := by omega
  have e : nx rs u c = rs[u][c] := by
    unfold nx
    rw [getD_at hu, getD_at hc']
  rw [e, List.getElem?_map, List.getElem?_eq_getElem hc']
  rfl
theorem end_bl {L : Nat} {rs : Rows} {es : List Bool} (M : MOk L rs es) {u : Nat} (hu : u < rs.length) : (es.map V.bl)[u]? = some (.bl (es.getD u false)) := by
  have hu' : u < es.length := by rw [M.es]; exact hu
  rw [List.getElem?_map, getD_at hu', List.getElem?_eq_getElem hu']
  rfl
def wS (w : List Nat) : Str := mkS (w.map (97 + ·))
theorem wS_at {w : List Nat} {i x : Nat} (h : (wS w).cps[i]? = some x) : ∃ c, w[i]? = some c ∧ x = 97 + c := by
  have h : ((w.map (97 + ·)).toArray)[i]? = some x := h
  rw [List.getElem?_toArray, List.getElem?_map] at h
  obtain ⟨c, h1, h2⟩ := Option.map_eq_some_iff.mp h
  exact ⟨c, h1, h2.symm⟩
theorem wS_len (w : List Nat) : (wS w).cps.size = w.length := by
  show ((w.map (97 + ·)).toArray).size = _
  rw [List.size_toArray, List.length_map]

section
variable {P : Program} {w : World} {K : PySem.W.Frag} {mg : Str → Option Value} {base : Heap}
theorem scIsOf : FnScope ["machine", "word", "_", "rows", "ends", "state", "sign"] ["machine", "word"] (defScope sIsOf) := ⟨rfl, rfl, rfl, by decide +kernel, rfl, by decide +kernel, by decide +kernel⟩
def spIsOf (K : PySem.W.Frag) : Sp := fun vs H Q _ => ∃ (B : Addr → Prop) (v : V) (L : Nat) (rs : Rows) (es : List Bool) (w : List Nat), vs = [v, .str (wS w)] ∧ Dt B K H v (machDt L rs es) ∧ MOk L rs es ∧ Wl L w ∧ Q (.bl (acc rs es w 0)) H
theorem ok_isOf {f : Addr} {fd : FuncData} (F : Fun K "is_of" "is_of" sIsOf f fd) (T : Mg mg) : FnOk P w K mg base CX0 1 f fd ["machine", "word"] (spIsOf K) := by
  refine F.ok scIsOf (fun vs H Q E h => ?_) (fun cdv A outer s H vs Q E hr h => ?_)
  · obtain ⟨B, v, L, rs, es, z, rfl, _⟩ := h
    rfl
  · obtain ⟨B, v, L, rs, es, z, rfl, hd, M, wl, k⟩ := h
    obtain ⟨tt, le⟩ := T.le
    obtain ⟨m, pr, pe, rvs, rfl, nb, ma⟩ := dt_mach hd
    have L3 := M.L3
    refine ⟨_, (pss_cons (ps_asg (pv 0) (pg_tup rfl (pgs_cons (pg_name (i := 2) scIsOf.nd rfl (.inl rfl)) (pgs_cons (pg_name (i := 3) scIsOf.nd rfl (.inl rfl)) (pgs_cons (pg_name (i := 4) scIsOf.nd rfl (.inl rfl)) pgs_nil)))))
      (pss_cons (ps_set (i := 5) scIsOf.nd rfl (.inl rfl) pe_int)
      (pss_cons (ps_for PassesOwn.never rfl (pi_str (pv 1)) (pg_name (i := 6) scIsOf.nd rfl (.inl rfl)) (pss_cons (ps_set (i := 5) scIsOf.nd rfl (.inl rfl) (pe_ix (r := rIxT K) ix_tup (pe_ix (r := rIxT K) ix_tup (pv 3) (pv 5) (fun _ _ => rfl)) (pe_bm PySem.F.plainAttrs_str PySem.F.slot_str_index PySem.F.type_str_index mt_sindex (pe_glob (v := .str "abc") (by rfl) le ⟨_, rfl⟩) (pa_cons (pv 6) pa_nil)) (fun _ _ => rfl)))
      (pss_one (ps_if (pt_cmp (pc_isN (pv 5))) (pss_one (ps_ret pe_bl)) pss_nil))))
      (pss_one (ps_ret (pe_ix (r := rIxT K) ix_tup (pv 4) (pv 5) (fun _ _ => rfl))))))), ?_⟩
    refine ⟨_, rfl, m, _, rfl, .inl ma.hm, rfl, _, _, rfl, _, _, rfl, _, _, rfl, rfl, ?_⟩
    refine ⟨_, rfl, wS z, rfl, ?_⟩
    refine for_it walk_str (fun i σ H' => ∃ u : Nat, (∃ y6, σ = [some (.ref m), some (.str (wS z)), some (.int (L : Int)), some (.ref pr), some (.ref pe), some (.int (u : Int)), y6]) ∧ H' = H ∧ u < rs.length ∧ run rs (z.take i) 0 = some u) ⟨0, ⟨none, rfl⟩, rfl, M.l1, rfl⟩ (fun _ _ _ _ _ => True.intro) ?_ ?_
    · rintro i x σ H1 H2 hi ⟨u, ⟨y6, rfl⟩, rfl, hu, hg⟩ ⟨rfl, x, hcz, rfl⟩
      obtain ⟨c, hc, rfl⟩ := wS_at hcz
      have hl := wl c (List.mem_of_getElem? hc)
      obtain ⟨row, hrow, e3⟩ := row_oV M hu hl
      obtain ⟨q, e1, e2⟩ := ma.row u row hrow
      refine ⟨_, rfl, _, rfl, pr, _, _, .ref q, rfl, rfl, .inl ma.hr, atI_nat e1, rfl, _, rfl, "abc", _, c, [], rfl, rfl, occ_abc (by omega), q, _, _, oV (nx rs u c), rfl, rfl, .inl e2, atI_nat e3, ?_⟩
      have hs := run_take (rs := rs) (s := 0) hc
      rw [hg] at hs
      have hs : run rs (z.take (i + 1)) 0 = nx rs u c := hs
      cases e4 : nx rs u c with
      | none =>
        rw [e4] at hs
        rw [run_stop hs] at k
        exact ⟨_, rfl, _, rfl, ite2 (fun _ => k) (fun q => absurd (decide_eq_true rfl) q)⟩
      | some v =>
        rw [e4] at hs
        refine ⟨_, rfl, _, rfl, ite2 (fun q => ?_) (fun _ => ?_)⟩
        · cases of_decide_eq_true q
        exact ⟨v, ⟨_, rfl⟩, rfl, M.nx_lt e4, hs⟩
    · rintro σ H1 ⟨u, ⟨y6, rfl⟩, rfl, hu, hg⟩
      rw [wS_len, List.take_length] at hg
      rw [acc_end hg] at k
      exact ⟨_, rfl, _, rfl, pe, _, _, .bl (es.getD u false), rfl, rfl, .inl ma.he, atI_nat (end_bl M hu), k⟩
end
section
variable {P : Program} {w : World} {K : PySem.W.Frag} {mg : Str → Option Value} {base : Heap}
theorem scNext : FnScope ["_law_machine_here", "_law_state", "_law_letter"] ["_law_machine_here", "_law_state", "_law_letter"] (defScope sNext) := ⟨rfl, rfl, rfl, by decide +kernel, rfl, by decide +kernel, by decide +kernel⟩
def spNext (K : PySem.W.Frag) : Sp := fun vs H Q _ => ∃ (B : Addr → Prop) (v : V) (L : Nat) (rs : Rows) (es : List Bool) (o : Option Nat) (c : Nat), vs = [v, oV o, sgV (97 + c)] ∧ Dt B K H v (machDt L rs es) ∧ MOk L rs es ∧ c < L ∧ (∀ u, o = some u → u < rs.length) ∧ Q (oV (o.bind fun u => nx rs u c)) H
theorem ok_next {f : Addr} {fd : FuncData} (F : Fun K "_law_next" "_law_next" sNext f fd) (T : Mg mg) : FnOk P w K mg base CX0 1 f fd ["_law_machine_here", "_law_state", "_law_letter"] (spNext K) := by
  refine F.ok scNext (fun vs H Q E h => ?_) (fun cdv A outer s H vs Q E hr h => ?_)
  · obtain ⟨B, v, L, rs, es, o, c, rfl, _⟩ := h
    rfl
  · obtain ⟨B, v, L, rs, es, o, c, rfl, hd, M, hc, ho, k⟩ := h
    obtain ⟨m, pr, pe, rvs, rfl, nb, ma⟩ := dt_mach hd
    have L3 := M.L3
    refine ⟨_, (pss_one (ps_ret (pe_ifExp (pt_cmp (pc_isN (pv 1))) pe_non (pe_ix (r := rIxT K) ix_tup (pe_ix (r := rIxT K) ix_tup (pe_ix (r := rIxT K) ix_tup (pv 0) pe_int (fun _ _ => rfl)) (pv 1) (fun _ _ => rfl)) (pe_bm PySem.F.plainAttrs_str PySem.F.slot_str_index PySem.F.type_str_index mt_sindex pe_str (pa_cons (pv 2) pa_nil)) (fun _ _ => rfl))))), ?_⟩
    cases o with
    | none => exact ⟨_, rfl, _, rfl, ite2 (fun _ => k) (fun q => absurd (decide_eq_true rfl) q)⟩
    | some u =>
      have hu := ho u rfl
      obtain ⟨row, hrow, e3⟩ := row_oV M hu hc
      obtain ⟨q, e1, e2⟩ := ma.row u row hrow
      refine ⟨_, rfl, _, rfl, ite2 (fun q => ?_) (fun _ => ?_)⟩
      · cases of_decide_eq_true q
      exact ⟨_, rfl, m, _, 1, _, rfl, rfl, .inl ma.hm, atI_nat (j := 1) rfl, _, rfl, pr, _, _, .ref q, rfl, rfl, .inl ma.hr, atI_nat e1, rfl, _, rfl, "abc", _, c, [], rfl, rfl, occ_abc (by omega), q, _, _, oV (nx rs u c), rfl, rfl, .inl e2, atI_nat e3, k⟩
end
section
variable {P : Program} {w : World} {K : PySem.W.Frag} {mg : Str → Option Value} {base : Heap}
theorem scEnd : FnScope ["_law_machine_here", "_law_state"] ["_law_machine_here", "_law_state"] (defScope sEnd) := ⟨rfl, rfl, rfl, by decide +kernel, rfl, by decide +kernel, by decide +kernel⟩
def spEnd (K : PySem.W.Frag) : Sp := fun vs H Q _ => ∃ (B : Addr → Prop) (v : V) (L : Nat) (rs : Rows) (es : List Bool) (o : Option Nat), vs = [v, oV o] ∧ Dt B K H v (machDt L rs es) ∧ MOk L rs es ∧ (∀ u, o = some u → u < rs.length) ∧ Q (.bl (endO es o)) H
theorem ok_end {f : Addr} {fd : FuncData} (F : Fun K "_law_end" "_law_end" sEnd f fd) (T : Mg mg) : FnOk P w K mg base CX0 1 f fd ["_law_machine_here", "_law_state"] (spEnd K) := by
  refine F.ok scEnd (fun vs H Q E h => ?_) (fun cdv A outer s H vs Q E hr h => ?_)
  · obtain ⟨B, v, L, rs, es, o, rfl, _⟩ := h
    rfl
  · obtain ⟨B, v, L, rs, es, o, rfl, hd, M, ho, k⟩ := h
    obtain ⟨m, pr, pe, rvs, rfl, nb, ma⟩ := dt_mach hd
    refine ⟨_, (pss_one (ps_ret (pe_and (pe_cmp (pc_notN (pv 1))) (pe_one (pe_ix (r := rIxT K) ix_tup (pe_ix (r := rIxT K) ix_tup (pv 0) pe_int (fun _ _ => rfl)) (pv 1) (fun _ _ => rfl)))))), ?_⟩
    cases o with
    | none => exact ⟨_, rfl, _, rfl, ite2 (fun q => by cases q) (fun _ => k)⟩
    | some u =>
      have hu := ho u rfl
      exact ⟨_, rfl, _, rfl, ite2 (fun _ => ⟨_, rfl, m, _, 2, _, rfl, rfl, .inl ma.hm, atI_nat (j := 2) rfl, _, rfl, pe, _, _, .bl (es.getD u false), rfl, rfl, .inl ma.he, atI_nat (end_bl M hu), k⟩) (fun q => absurd rfl q)⟩
end
section
variable {P : Program} {w : World} {K : PySem.W.Frag} {mg : Str → Option Value} {base : Heap}
theorem scIsOfL : FnScope ["_law_machine_here", "_law_word", "_law_state", "_law_letter"] ["_law_machine_here", "_law_word"] (defScope sIsOfL) := ⟨rfl, rfl, rfl, by decide +kernel, rfl, by decide +kernel, by decide +kernel⟩
theorem ok_isOfL {f fNX fEN : Addr} {fd fdNX fdEN : FuncData} (F : Fun K "_law_is_of" "_law_is_of" sIsOfL f fd)
    (NX : FnOk P w K mg base CX0 1 fNX fdNX ["_law_machine_here", "_law_state", "_law_letter"] (spNext K)) (FNX : Fun K "_law_next" "_law_next" sNext fNX fdNX) (bNX : Binds K fdNX ["_law_machine_here", "_law_state", "_law_letter"] []) (gNX : mg "_law_next" = some (.ref fNX))
    (EN : FnOk P w K mg base CX0 1 fEN fdEN ["_law_machine_here", "_law_state"] (spEnd K)) (FEN : Fun K "_law_end" "_law_end" sEnd fEN fdEN) (bEN : Binds K fdEN ["_law_machine_here", "_law_state"] []) (gEN : mg "_law_end" = some (.ref fEN)) (T : Mg mg) : FnOk P w K mg base CX0 2 f fd ["_law_machine_here", "_law_word"] (spIsOf K) := by
  refine F.ok scIsOfL (fun vs H Q E h => ?_) (fun cdv A outer s H vs Q E hr h => ?_)
  · obtain ⟨B, v, L, rs, es, z, rfl, _⟩ := h
    rfl
  · obtain ⟨B, v, L, rs, es, z, rfl, hd, M, wl, k⟩ := h
    refine ⟨_, (pss_cons (ps_set (i := 2) scIsOfL.nd rfl (.inl rfl) pe_int)
      (pss_cons (ps_for PassesOwn.never rfl (pi_str (pv 1)) (pg_name (i := 3) scIsOfL.nd rfl (.inl rfl)) (pss_one (ps_set (i := 2) scIsOfL.nd rfl (.inl rfl) (pe_call NX (hr.mono (by decide)) (by rfl) gNX FNX.kp bNX .nil pass0 (pa_cons (pv 0) (pa_cons (pv 2) (pa_cons (pv 3) pa_nil)))))))
      (pss_one (ps_ret (pe_call EN (hr.mono (by decide)) (by rfl) gEN FEN.kp bEN .nil pass0 (pa_cons (pv 0) (pa_cons (pv 2) pa_nil))))))), ?_⟩
    refine ⟨_, rfl, wS z, rfl, ?_⟩
    refine for_it walk_str (fun i σ H' => (∃ y3, σ = [some v, some (.str (wS z)), some (oV (run rs (z.take i) 0)), y3]) ∧ H' = H) ⟨⟨none, rfl⟩, rfl⟩ (fun _ _ _ _ _ => True.intro) ?_ ?_
    · rintro i x σ H1 H2 hi ⟨⟨y3, rfl⟩, rfl⟩ ⟨rfl, x, hcz, rfl⟩
      obtain ⟨c, hc, rfl⟩ := wS_at hcz
      have hl := wl c (List.mem_of_getElem? hc)
      refine ⟨_, rfl, _, rfl, _, rfl, B, v, L, rs, es, run rs (z.take i) 0, c, rfl, hd, M, hl, fun u e => M.run_lt _ e, ⟨some (sgV (97 + c)), ?_⟩, rfl⟩
      rw [run_take hc]
      rfl
    · rintro σ H1 ⟨⟨y3, rfl⟩, rfl⟩
      rw [wS_len, List.take_length]
      refine ⟨_, rfl, _, rfl, B, v, L, rs, es, run rs z 0, rfl, hd, M, fun u e => M.run_lt _ e, ?_⟩
      rw [endO_acc]
      exact k
end
/-! ### a dict whose keys are tuples with None among their parts -/
def okV : Option Key → V
  | none => .non
  | some k => kV k
theorem okV_is {P : Program} {w : World} {k : Option Key} {u : Value} (r : RelV (okV k) u) : (noneKind P w).is k u = true := by
  cases k with
  | none =>
    cases (show u = Value.none from r)
    rfl
  | some k => exact kV_is (P := P) (w := w) r
theorem items_areN {P : Program} {w : World} : ∀ {ks : List (Option Key)} {us : List Value}, Vals (ks.map okV) us → ItemsAre (noneKind P w) ks us
  | [], _, r => by rw [List.map_nil] at r; cases r; exact .nil
  | k :: ks, _, r => by
    rw [List.map_cons] at r
    cases r with
    | cons h t => exact .cons (okV_is h) (items_areN t)
section
variable {P : Program} {w : World} {H : Hp} {h : Heap} {a : Addr}
theorem key_ofN {ks : List (Option Key)} (ok : HOk P w H h) (e : H a = some (.tup (ks.map okV))) : (tupleKind (noneKind P w)).is h ks a := by
  obtain ⟨_, its, r, o, h1, h2, n, h3⟩ := (show ObjOk P w H h a (.tup (ks.map okV)) from ok a _ e)
  exact ⟨o, its.toArray, n, h1, h2, h3, by simpa using items_areN r⟩
abbrev NXs := List (List (Option Key) × Addr × Value)
def dnP (P : Program) (w : World) (a : Addr) (xs : NXs) (h : Heap) : Prop := ∃ o es ep, h.get? a = some o ∧ o.ExactDict ∧ o.data = .dict es ep ∧ es.toList = xs.map (entryOfKey (tupleKind (noneKind P w)))
def dnO (P : Program) (w : World) (a : Addr) (xs : NXs) : HO := .ext (dnP P w a xs)
theorem dnO_ok {H' : Hp} {h' : Heap} {xs : NXs} (e : dnP P w a xs h') : ObjOk P w H' h' a (dnO P w a xs) := by
  obtain ⟨o, es, ep, e1, e2, e3, e4⟩ := e
  exact ⟨⟨o, es, ep, e1, e2, e3, e4⟩, ⟨o, e1⟩, fun h1 h2 ⟨o, es, ep, f1, f2, f3, f4⟩ k => ⟨o, es, ep, k o f1, f2, f3, f4⟩⟩
/-- the dict at a has the keys ks -/
structure DN (P : Program) (w : World) (H : Hp) (a : Addr) (ks : List (List (Option Key))) : Prop where
  ex : ∃ xs : NXs, H a = some (dnO P w a xs) ∧ xs.map (·.1) = ks ∧ ∀ x ∈ xs, H x.2.1 = some (.tup (x.1.map okV))
  nd : ks.Nodup
  ns : (a == sysModules) = false
theorem DN.keep {H' : Hp} {ks : List (List (Option Key))} (d : DN P w H a ks) (k : ∀ b o, H b = some o → (∀ xs, o ≠ .lst xs) → H' b = some o) : DN P w H' a ks := by
  obtain ⟨⟨xs, h1, h2, h3⟩, nd, ns⟩ := d
  exact ⟨⟨xs, k _ _ h1 (fun _ z => nomatch z), h2, fun x hx => k _ _ (h3 x hx) (fun _ z => nomatch z)⟩, nd, ns⟩
theorem DN.same {H' : Hp} {ks : List (List (Option Key))} (d : DN P w H a ks) (s : Same H H') : DN P w H' a ks := d.keep fun b o e _ => s b o e
theorem DN.obj {ks : List (List (Option Key))} (d : DN P w H a ks) : ∃ o, H a = some o ∧ (∀ xs, o ≠ .lst xs) ∧ ∀ xs, o ≠ .tup xs := by
  obtain ⟨⟨xs, h1, _⟩, _⟩ := d
  exact ⟨_, h1, fun _ z => (nomatch z), fun _ z => (nomatch z)⟩
theorem DN.write {ks : List (List (Option Key))} (d : DN P w H a ks) {p : Addr} {xs : List V} {o : HO} (hp : H p = some (.lst xs)) : DN P w (upd H p o) a ks := d.keep fun b u e n => by
  rw [upd_ne (fun z => by rw [z, hp] at e; exact n xs (Option.some.inj e).symm)]
  exact e
theorem dn_of {ks : List (List (Option Key))} (ok : HOk P w H h) (d : DN P w H a ks) : ∃ xs : NXs, H a = some (dnO P w a xs) ∧ xs.map (·.1) = ks ∧ (∀ x ∈ xs, H x.2.1 = some (.tup (x.1.map okV))) ∧ h.DictOfH (tupleKind (noneKind P w)) a xs := by
  obtain ⟨⟨xs, h1, h2, h3⟩, nd, ns⟩ := d
  obtain ⟨⟨o, es, ep, e1, e2, e3, e4⟩, _⟩ := (show ObjOk P w H h a (dnO P w a xs) from ok a _ h1)
  exact ⟨xs, h1, h2, h3, o, es, ep, e1, e2, e3, e4, fun x hx => key_ofN ok (h3 x hx), by rw [h2]; exact nd⟩
def inN (ks : List (List (Option Key))) (k : List (Option Key)) : Bool := ks.any fun x => decide (x = k)
theorem inN_iff {ks : List (List (Option Key))} {k : List (Option Key)} : inN ks k = true ↔ k ∈ ks := by
  unfold inN
  rw [List.any_eq_true]
  exact ⟨fun ⟨x, hx, e⟩ => of_decide_eq_true e ▸ hx, fun h => ⟨k, h, decide_eq_true rfl⟩⟩
theorem inN_no {ks : List (List (Option Key))} {k : List (Option Key)} (h : k ∉ ks) : inN ks k = false := by
  cases e : inN ks k with
  | false => rfl
  | true => exact absurd (inN_iff.mp e) h
theorem at_dec (xs : NXs) (k : List (Option Key)) : (atKey xs k).isSome = inN (xs.map (·.1)) k := by
  unfold atKey
  rw [Option.isSome_map, Bool.eq_iff_iff, inN_iff, List.find?_isSome]
  constructor
  · rintro ⟨x, hx, e⟩
    exact List.mem_map.mpr ⟨x, hx, of_decide_eq_true e⟩
  · intro hm
    obtain ⟨x, hx, e⟩ := List.mem_map.mp hm
    exact ⟨x, hx, decide_eq_true e⟩
end
def tNotInN (P : Program) (w : World) (ty td : TE) : TE := fun σ H Q => ty σ H fun y H1 => td σ H1 fun x H2 => ∃ (a b : Addr) (k : List (Option Key)) (ks : List (List (Option Key))), x = .ref a ∧ y = .ref b ∧ DN P w H2 a ks ∧ H2 b = some (.tup (k.map okV)) ∧ Q (.bl (!inN ks k)) H2
def rSetN (P : Program) (w : World) : TSet := fun o i _ H Q => ∃ (a b : Addr) (k : List (Option Key)) (ks : List (List (Option Key))), o = .ref a ∧ i = .ref b ∧ DN P w H a ks ∧ H b = some (.tup (k.map okV)) ∧ k ∉ ks ∧ ks.length ≤ sizeLine ∧ ∀ H', DN P w H' a (ks ++ [k]) → (∀ c, c ≠ a → H' c = H c) → Q H'
def tDict1N (P : Program) (w : World) (tk tv : TE) : TE := fun σ H Q => ∀ p, H p = none → tk σ (upd H p (dnO P w p [])) fun x H1 => tv σ H1 fun _ H2 => H2 p = some (dnO P w p []) ∧ ∃ (k : List (Option Key)) (b : Addr), x = .ref b ∧ H2 b = some (.tup (k.map okV)) ∧ ∀ H', DN P w H' p [k] → (∀ c, c ≠ p → H' c = H2 c) → Q (.ref p) H'
section
variable {X : Cx} {o i : Expr} {td ty : TE}
theorem pc_notinN (hu : X.A.units + 1 < cLine) (hi : PE X i ty) (ho : PE X o td) : PC X .NotIn i o (tNotInN X.prog X.w ty td) := by
  refine ⟨fun pins s σ H Q I h => ?_⟩
  refine thn (hi.run pins s σ H _ I h) fun iv s1 ⟨y, H1, I1, ry, q1⟩ => thn (ho.run pins s1 σ H1 _ I1 q1) fun u s2 ⟨x, H2, I2, rx, a, b, k, ks, ex, ey, d, hb, q2⟩ => ?_
  subst ex ey
  obtain rfl : u = Value.ref a := rx
  obtain rfl : iv = Value.ref b := ry
  obtain ⟨xs, _, h2, _, dd⟩ := dn_of I2.hok d
  refine wpAny_notIn_heap (tupleKind_room_in1 hu) (key_ofN I2.hok hb) d.ns dd ?_
  rw [at_dec, h2]
  exact ⟨.bl (!inN ks k), H2, I2.tok _, rfl, q2⟩
theorem set_dn (hu : X.A.units + 1 < cLine) : PSet X (rSetN X.prog X.w) := by
  intro pins s σ H o i v ov iv u Q I ro ri rv h
  obtain ⟨a, b, k, ks, eo, ei, d, hb, nk, lz, q⟩ := h
  subst eo ei
  cases (show ov = Value.ref a from ro)
  cases (show iv = Value.ref b from ri)
  obtain ⟨xs, ha, h2, h3, dd⟩ := dn_of I.hok d
  have hz : xs.length ≤ sizeLine := by rw [← List.length_map (f := (·.1)), h2]; exact lz
  have na : atKey xs k = none := by
    have := at_dec xs k
    rw [h2, inN_no nk] at this
    cases e : atKey xs k with
    | none => rfl
    | some y => rw [e] at this; cases this
  refine wpAny_setItem_heap (hsz := hz) (tupleKind_room_in1 hu) (key_ofN I.hok hb) dd fun h' dd' hs => ?_
  obtain ⟨oo, es, ep, hq, e2, e3, e4, _, e5⟩ := dd'
  rw [storedH_new na] at e4
  have mu : Mut (H a) := by rw [ha]; exact True.intro
  refine ⟨_, d_write (ob := dnO X.prog X.w a (xs ++ [(k, b, u)])) I mu hs ⟨oo, hq⟩ (dnO_ok ⟨oo, es, ep, hq, e2, e3, e4⟩), q _ ⟨⟨xs ++ [(k, b, u)], upd_same, by rw [List.map_append, h2]; rfl, fun x hx => ?_⟩, ?_, d.ns⟩ fun c hc => upd_ne hc⟩
  · have key : H x.2.1 = some (.tup (x.1.map okV)) := by
      rcases List.mem_append.mp hx with hx | hx
      · exact h3 x hx
      · rw [List.mem_singleton.mp hx]
        exact hb
    rw [upd_ne (fun z => by rw [z, ha] at key; cases key)]
    exact key
  · rw [List.nodup_append]
    refine ⟨d.nd, List.nodup_cons.mpr ⟨List.not_mem_nil, List.nodup_nil⟩, fun x hx y hy e => ?_⟩
    rw [List.mem_singleton.mp hy] at e
    exact nk (e ▸ hx)
theorem pe_dict1N {pos : Pos} {ke ve : Expr} {tk tv : TE} (hu : X.A.units < cLine) (hk : PE X ke tk) (hv : PE X ve tv) : PE X (.Dict [some ke] [ve] pos) (tDict1N X.prog X.w tk tv) := by
  refine ⟨fun pins s σ H Q I q => ?_⟩
  have hn := I.hok.fresh (Nat.le_refl s.heap.objs.size)
  have bg := I.big
  have I1 := I.laid (a := s.heap.objs.size) (o := dnO X.prog X.w s.heap.objs.size []) (h' := s.heap.push { cls := .type "dict", data := .dict #[] }) (t' := s.toks) (fun _ _ q => Heap.get?_push_of_some _ q) (Nat.le_refl _) (dnO_ok ⟨_, #[], 0, Heap.get?_push_size _ rfl, ⟨rfl, rfl, rfl⟩, rfl, rfl⟩)
  have q1 := q _ hn
  rw [arm_eval_Dict, zip_pairTrees [some ke] [ve] X.env pos rfl rfl, dictDisplay_pairs _ (by simp [pairTrees]) (by simp [pairTrees])]
  refine wpAny_bind (wpAny_standAt (wpAny_bind (wpAny_subDictH (knd := tupleKind (noneKind X.prog X.w)) (Q := fun d s' => wpAny (model X.prog X.w) X.A (pure (Value.ref d)) (EP X pins σ Q) X.xe s') hu (by simp [pairTrees]) ?_)))
  refine wpAny_mono ((pps_cons hk hv (pps_nil (X := X) (pos := pos))).run pins _ σ _ (fun ps H2 => match ps with
    | [(x, y)] => H2 s.heap.objs.size = some (dnO X.prog X.w s.heap.objs.size []) ∧ ∃ (k : List (Option Key)) (b : Addr), x = .ref b ∧ H2 b = some (.tup (k.map okV)) ∧ ∀ H', DN X.prog X.w H' s.heap.objs.size [k] → (∀ c, c ≠ s.heap.objs.size → H' c = H2 c) → Q (.ref s.heap.objs.size) H'
    | _ => False) I1 q1) (fun vs s2 hh => ?_) fun _ _ e => e
  obtain ⟨ps, H2, I2, rel, qq⟩ := hh
  match ps, rel, qq with
  | [(x, y)], rel, qq =>
    obtain ⟨e, k, b, rfl, eb, q2⟩ := qq
    cases rel with
    | @cons a c as bs r1 r2 =>
      cases r2
      obtain ⟨u, w2⟩ := c
      cases (show u = Value.ref b from r1.1)
      have ns : (s.heap.objs.size == sysModules) = false := beq_eq_false_iff_ne.mpr (Ne.symm (Nat.ne_of_lt bg))
      have d0 : DN X.prog X.w H2 s.heap.objs.size [] := ⟨⟨[], e, rfl, fun x hx => absurd hx List.not_mem_nil⟩, List.nodup_nil, ns⟩
      obtain ⟨xs, e', h2, _, dd⟩ := dn_of I2.hok d0
      cases List.map_eq_nil_iff.mp h2
      refine ⟨[(k, b, w2)], ⟨rfl, rfl, key_ofN I2.hok eb, trivial⟩, dd, fun h' tk' dd' hs => wpAny_pure ?_⟩
      obtain ⟨o, es, ep, hq, d2, d3, d4, _, d5⟩ := dd'
      have mu : Mut (H2 s.heap.objs.size) := by rw [e]; exact True.intro
      refine ⟨.ref s.heap.objs.size, _, d_write (t' := tk') (ob := dnO X.prog X.w s.heap.objs.size [(k, b, w2)]) I2 mu hs ⟨o, hq⟩ (dnO_ok ⟨o, es, ep, hq, d2, d3, d4⟩), rfl, q2 _ ⟨⟨[(k, b, w2)], upd_same, rfl, fun x hx => ?_⟩, ?_, ns⟩ fun c hc => upd_ne hc⟩
      · rw [List.mem_singleton.mp hx]
        show (upd H2 _ _) b = _
        rw [upd_ne (fun z => by rw [z, e] at eb; cases eb)]
        exact eb
      · exact List.nodup_cons.mpr ⟨List.not_mem_nil, List.nodup_nil⟩
end
def cdP (n1 n2 : Nat) (p : Option Nat × Option Nat) : Nat := p.1.getD n1 * (n2 + 1) + p.2.getD n2
def POk (n1 n2 : Nat) (p : Option Nat × Option Nat) : Prop := (∀ u, p.1 = some u → u < n1) ∧ ∀ u, p.2 = some u → u < n2
def nxP (r1 r2 : Rws) (p : Option Nat × Option Nat) (c : Nat) : Option Nat × Option Nat := (p.1.bind fun u => nx r1 u c, p.2.bind fun u => nx r2 u c)
theorem optD_le {n : Nat} {o : Option Nat} (h : ∀ u, o = some u → u < n) : o.getD n < n + 1 := by
  cases o with
  | none => exact Nat.lt_succ_self _
  | some u =>
    have := h u rfl
    show u < n + 1
    omega
theorem optD_inj {n : Nat} {o p : Option Nat} (h : ∀ u, o = some u → u < n) (g : ∀ u, p = some u → u < n) (e : o.getD n = p.getD n) : o = p := by
  cases o with
  | none =>
    cases p with
    | none => rfl
    | some v =>
      have := g v rfl
      have e : n = v := e
      omega
  | some u =>
    have hu := h u rfl
    cases p with
    | none =>
      have e : u = n := e
      omega
    | some v => exact congrArg some e
section
variable {n1 n2 L : Nat} {p q : Option Nat × Option Nat} {r1 r2 : Rows} {e1 e2 : List Bool}
theorem cd_div (h : POk n1 n2 p) : cdP n1 n2 p / (n2 + 1) = p.1.getD n1 ∧ cdP n1 n2 p % (n2 + 1) = p.2.getD n2 := by
  have l := optD_le h.2
  unfold cdP
  rw [Nat.mul_comm]
  refine ⟨?_, ?_⟩
  · rw [Nat.mul_add_div (by omega), Nat.div_eq_of_lt l, Nat.add_zero]
  · rw [Nat.mul_add_mod, Nat.mod_eq_of_lt l]
theorem cd_inj (h : POk n1 n2 p) (g : POk n1 n2 q) (e : cdP n1 n2 p = cdP n1 n2 q) : p = q := by
  obtain ⟨a1, a2⟩ := cd_div h
  obtain ⟨b1, b2⟩ := cd_div g
  rw [e] at a1 a2
  exact Prod.ext (optD_inj h.1 g.1 (a1.symm.trans b1)) (optD_inj h.2 g.2 (a2.symm.trans b2))
theorem cd_lt (h : POk n1 n2 p) : cdP n1 n2 p < (n1 + 1) * (n2 + 1) := by
  have a := optD_le h.1
  have b := optD_le h.2
  unfold cdP
  have := Nat.mul_le_mul_right (n2 + 1) (show p.1.getD n1 + 1 ≤ n1 + 1 from a)
  rw [Nat.add_mul, Nat.one_mul] at this
  omega
theorem nxP_ok (M1 : MOk L r1 e1) (M2 : MOk L r2 e2) (c : Nat) : POk r1.length r2.length (nxP r1 r2 p c) := by
  refine ⟨fun u h => ?_, fun u h => ?_⟩
  · obtain ⟨s, _, e⟩ := Option.bind_eq_some_iff.mp h
    exact M1.nx_lt e
  · obtain ⟨s, _, e⟩ := Option.bind_eq_some_iff.mp h
    exact M2.nx_lt e
theorem cmpl_at (M : MOk L r1 e1) {o : Option Nat} {c : Nat} (h : ∀ u, o = some u → u < r1.length) (hc : c < L) : ((cmpl L r1).getD (o.getD r1.length) []).getD c 0 = (o.bind fun u => nx r1 u c).getD r1.length := by
  cases o with
  | none =>
    have e : (cmpl L r1).getD r1.length [] = List.replicate L r1.length := by
      unfold cmpl
      rw [List.getD_eq_getElem?_getD, List.getElem?_append_right (by rw [List.length_map]; exact Nat.le_refl _), List.length_map, Nat.sub_self]
      rfl
    show ((cmpl L r1).getD r1.length []).getD c 0 = r1.length
    rw [e, List.getD_eq_getElem?_getD, List.getElem?_replicate, if_pos hc]
    rfl
  | some u =>
    have l := h u rfl
    have e : (cmpl L r1).getD u [] = (r1[u]).map fun o => o.getD r1.length := by
      unfold cmpl
      rw [List.getD_eq_getElem?_getD, List.getElem?_append_left (by rw [List.length_map]; exact l), List.getElem?_map, List.getElem?_eq_getElem l]
      rfl
    have hr := M.row _ (List.getElem_mem l)
    have hc' : c < (r1[u]).length := by omega
    show ((cmpl L r1).getD u []).getD c 0 = (nx r1 u c).getD r1.length
    rw [e, List.getD_eq_getElem?_getD, List.getElem?_map, List.getElem?_eq_getElem hc']
    have : nx r1 u c = (r1[u])[c] := by
      unfold nx
      rw [getD_at l, getD_at hc']
    rw [this]
    rfl
theorem gT_cd (M1 : MOk L r1 e1) (M2 : MOk L r2 e2) (h : POk r1.length r2.length p) {c : Nat} (hc : c < L) : gT (gPair L r1 r2) (cdP r1.length r2.length p) c = cdP r1.length r2.length (nxP r1 r2 p c) := by
  unfold gT gPair
  rw [List.getD_eq_getElem?_getD, List.getElem?_map, List.getElem?_range hc]
  show ((cmpl L r1).getD (cdP r1.length r2.length p / (r2.length + 1)) []).getD c 0 * (r2.length + 1) + ((cmpl L r2).getD (cdP r1.length r2.length p % (r2.length + 1)) []).getD c 0 = _
  rw [(cd_div h).1, (cd_div h).2, cmpl_at M1 h.1 hc, cmpl_at M2 h.2 hc]
  rfl
theorem end_cd (M : MOk L r1 e1) {o : Option Nat} (h : ∀ u, o = some u → u < r1.length) : (e1 ++ [false]).getD (o.getD r1.length) false = endO e1 o := by
  have le := M.es
  cases o with
  | none =>
    show (e1 ++ [false]).getD r1.length false = false
    rw [List.getD_eq_getElem?_getD, List.getElem?_append_right (by omega), show r1.length - e1.length = 0 by omega]
    rfl
  | some u =>
    have := h u rfl
    show (e1 ++ [false]).getD u false = e1.getD u false
    rw [List.getD_eq_getElem?_getD, List.getElem?_append_left (by omega), ← List.getD_eq_getElem?_getD]
theorem wP_cd (M1 : MOk L r1 e1) (M2 : MOk L r2 e2) (h : POk r1.length r2.length p) : wPair e1 e2 (cdP r1.length r2.length p) = (endO e1 p.1 != endO e2 p.2) := by
  unfold wPair
  rw [M2.es, (cd_div h).1, (cd_div h).2, end_cd M1 h.1, end_cd M2 h.2]
theorem walk_cd (M1 : MOk L r1 e1) (M2 : MOk L r2 e2) : ∀ u : List Nat, Wl L u → walkr (gT (gPair L r1 r2)) 0 u = cdP r1.length r2.length (run r1 u.reverse 0, run r2 u.reverse 0) ∧ POk r1.length r2.length (run r1 u.reverse 0, run r2 u.reverse 0)
  | [], _ => ⟨(Nat.zero_mul _).symm.trans (Nat.add_zero _).symm, fun u e => by cases e; exact M1.l1, fun u e => by cases e; exact M2.l1⟩
  | c :: u, hw => by
    obtain ⟨a, b⟩ := walk_cd M1 M2 u fun x hx => hw x (List.mem_cons_of_mem _ hx)
    rw [List.reverse_cons, run_snoc, run_snoc]
    refine ⟨?_, nxP_ok (p := (run r1 u.reverse 0, run r2 u.reverse 0)) M1 M2 c⟩
    show gT (gPair L r1 r2) (walkr (gT (gPair L r1 r2)) 0 u) c = _
    rw [a, gT_cd M1 M2 b (hw c List.mem_cons_self)]
    rfl
/-- the predicate of apart, by words -/
theorem unl_iff (M1 : MOk L r1 e1) (M2 : MOk L r2 e2) {u : List Nat} (hu : Wl L u) : Unl L r1 r2 e1 e2 u ↔ acc r1 e1 u.reverse 0 ≠ acc r2 e2 u.reverse 0 := by
  obtain ⟨a, b⟩ := walk_cd M1 M2 u hu
  unfold Unl
  rw [a, wP_cd M1 M2 b]
  show (endO e1 (run r1 u.reverse 0) != endO e2 (run r2 u.reverse 0)) = true ↔ _
  rw [endO_acc, endO_acc]
  exact bne_iff_ne
end
section
variable {gt : Nat → Nat → Nat} {wt : Nat → Bool} {L v0 : Nat} {nodes : List Nat} {reps : List (List Nat)} {p : Nat}
/-- words whose nodes are looked at one after another: the first one that is wanted -/
theorem Bfs.hit (h : Bfs gt (fun _ => false) L v0 nodes reps p 0) {vp : Nat} {rp : List Nat} (hv : nodes[p]? = some vp) (hp : reps[p]? = some rp) (hw : wt vp = true) (hn : ∀ i v, i < p → nodes[i]? = some v → wt v = false) : First (fun u => wt (walkr gt v0 u) = true) L (some rp) := by
  obtain ⟨w1, w2⟩ := h.wk p vp rp hv hp
  refine ⟨w2, by show wt (walkr gt v0 rp) = true; rw [w1]; exact hw, fun u hu s z => ?_⟩
  obtain ⟨j, r, h1, h2, h3⟩ := h.all hp u hu (sl_trans s (sl_cons rp 0))
  have sr : Sl r rp := by
    rcases h3 with h3 | h3
    · exact sl_trans h3 s
    · rw [h3]
      exact s
  have jp : j < p := by
    rcases Nat.lt_trichotomy j p with l | l | l
    · exact l
    · subst l
      rw [hp] at h2
      cases h2
      exact absurd sr (sl_irr _)
    · exact absurd (sl_trans sr (sl_at h.srt hp h2 l)) (sl_irr _)
  have := hn j _ jp h1
  have z : wt (walkr gt v0 u) = true := z
  rw [this] at z
  cases z
theorem Bfs.nothing (h : Bfs gt (fun _ => false) L v0 nodes reps p 0) (hp : nodes.length ≤ p) (hn : ∀ i v, i < p → nodes[i]? = some v → wt v = false) : First (fun u => wt (walkr gt v0 u) = true) L none := by
  have hno : ∀ v ∈ nodes, wt v = false := fun v hv => by
    obtain ⟨i, hi⟩ := List.mem_iff_getElem?.mp hv
    have := (List.getElem?_eq_some_iff.mp hi).1
    exact hn i v (by omega) hi
  have h' : Bfs gt wt L v0 nodes reps p 0 := ⟨h.ln, h.nd, h.zn, h.zr, h.wk, hno, h.srt, h.org, h.cov⟩
  exact h'.none_ hp
end
def okey (o : Option Nat) : Option Key := o.map fun k => .inl (k : Int)
theorem okey_V (o : Option Nat) : okV (okey o) = oV o := by
  cases o <;> rfl
def kkP (p : Option Nat × Option Nat) : List (Option Key) := [okey p.1, okey p.2]
theorem kk_V (p : Option Nat × Option Nat) : (kkP p).map okV = [oV p.1, oV p.2] := by
  unfold kkP
  rw [List.map_cons, List.map_cons, List.map_nil, okey_V, okey_V]
theorem okey_inj {o p : Option Nat} (h : okey o = okey p) : o = p := by
  cases o with
  | none =>
    cases p with
    | none => rfl
    | some v => cases h
  | some u =>
    cases p with
    | none => cases h
    | some v =>
      have h := Sum.inl.inj (Option.some.inj h)
      have : u = v := by omega
      rw [this]
theorem kk_injP {p q : Option Nat × Option Nat} (h : kkP p = kkP q) : p = q := by
  have h1 := List.cons.inj h
  have h2 := List.cons.inj h1.2
  exact Prod.ext (okey_inj h1.1) (okey_inj h2.1)
theorem kk_mem {p : Option Nat × Option Nat} {ps : List (Option Nat × Option Nat)} : kkP p ∈ ps.map kkP ↔ p ∈ ps := by
  constructor
  · intro h
    obtain ⟨q, hq, e⟩ := List.mem_map.mp h
    exact kk_injP e ▸ hq
  · exact fun h => List.mem_map.mpr ⟨p, h, rfl⟩
theorem cd_mem {n1 n2 : Nat} {p : Option Nat × Option Nat} {ps : List (Option Nat × Option Nat)} (h : POk n1 n2 p) (hs : ∀ q ∈ ps, POk n1 n2 q) : cdP n1 n2 p ∈ ps.map (cdP n1 n2) ↔ p ∈ ps := by
  constructor
  · intro hm
    obtain ⟨q, hq, e⟩ := List.mem_map.mp hm
    exact cd_inj (hs q hq) h e ▸ hq
  · exact fun h => List.mem_map.mpr ⟨p, h, rfl⟩
theorem txR_snoc (u : List Nat) (c : Nat) : txR u ++ ⟨#[97 + c]⟩ = txR (c :: u) := by
  show mkS (u.reverse.map (97 + ·)) ++ mkS [97 + c] = _
  rw [mkS_add]
  show mkS _ = mkS ((c :: u).reverse.map (97 + ·))
  rw [List.reverse_cons, List.map_append]
  rfl
theorem while_m {c : TT} {tb : TS} {D : Ends} {σ : L2.St} {H : Hp} (W : Nat → L2.St → Hp → Prop) (h0 : ∃ m, W m σ H)
    (hs : ∀ m σ H, W m σ H → c σ H fun b H1 => if b = true then tb { D with nx := fun σ' H' => ∃ m', m' < m ∧ W m' σ' H', ct := fun σ' H' => ∃ m', m' < m ∧ W m' σ' H', bk := D.nx } σ H1 else D.nx σ H1)
    (mono : ∀ σ H Q Q', (∀ b H1, Q b H1 → Q' b H1) → c σ H Q → c σ H Q') : tWhile c tb D σ H := by
  refine ⟨W, h0, fun m σ H p => mono σ H _ _ (fun b H1 q => ?_) (hs m σ H p)⟩
  cases b with
  | true => exact ⟨_, fun σ' H' z => z, q⟩
  | false => exact q
/-! ### the law's search for a word -/
theorem abc_cut {L : Nat} (h1 : 1 ≤ L) (h3 : L ≤ 3) : cutS "abc" none (some (L : Int)) = wS (List.range L) := by
  have : L = 1 ∨ L = 2 ∨ L = 3 := by omega
  rcases this with rfl | rfl | rfl <;> decide +kernel
abbrev PO := Option Nat × Option Nat
/-- a layer as it lies -/
def Lay (H : Hp) (tas : List Addr) (ps : List PO) (reps : List (List Nat)) (n : Nat) : Prop := ∀ (i : Nat) (a : Addr), tas[i]? = some a → ∃ (q : PO) (r : List Nat), ps[n + i]? = some q ∧ reps[n + i]? = some r ∧ Rd H a (.tup [.str (txR r), oV q.1, oV q.2])
theorem Lay.keep {H H' : Hp} {tas : List Addr} {ps : List PO} {reps : List (List Nat)} {n : Nat} (h : Lay H tas ps reps n) (k : ∀ a xs, Rd H a (.tup xs) → Rd H' a (.tup xs)) : Lay H' tas ps reps n := fun i a e => by
  obtain ⟨q, r, h1, h2, h3⟩ := h i a e
  exact ⟨q, r, h1, h2, k _ _ h3⟩
theorem Lay.same {H H' : Hp} {tas : List Addr} {ps : List PO} {reps : List (List Nat)} {n : Nat} (h : Lay H tas ps reps n) (s : Same H H') : Lay H' tas ps reps n := h.keep fun _ _ => same_rd s
theorem Lay.more {H : Hp} {tas : List Addr} {ps ps' : List PO} {reps reps' : List (List Nat)} {n : Nat} (h : Lay H tas ps reps n) : Lay H tas (ps ++ ps') (reps ++ reps') n := fun i a e => by
  obtain ⟨q, r, h1, h2, h3⟩ := h i a e
  refine ⟨q, r, ?_, ?_, h3⟩
  · rw [List.getElem?_append_left (List.getElem?_eq_some_iff.mp h1).1]
    exact h1
  · rw [List.getElem?_append_left (List.getElem?_eq_some_iff.mp h2).1]
    exact h2
theorem Lay.push {H : Hp} {tas : List Addr} {ps : List PO} {reps : List (List Nat)} {n : Nat} (h : Lay H tas ps reps n) {q : PO} {r : List Nat} {a : Addr} (hl : n + tas.length = ps.length) (hr : reps.length = ps.length) (ha : Rd H a (.tup [.str (txR r), oV q.1, oV q.2])) : Lay H (tas ++ [a]) (ps ++ [q]) (reps ++ [r]) n := fun i b e => by
  rcases Nat.lt_or_ge i tas.length with l | l
  · rw [List.getElem?_append_left l] at e
    exact h.more i b e
  · have l2 := (List.getElem?_eq_some_iff.mp e).1
    rw [List.length_append, List.length_singleton] at l2
    have eb : i = tas.length := by omega
    subst eb
    rw [List.getElem?_append_right (Nat.le_refl _), Nat.sub_self] at e
    cases e
    refine ⟨q, r, ?_, ?_, ha⟩
    · rw [hl, List.getElem?_append_right (Nat.le_refl _), Nat.sub_self]
      rfl
    · rw [hl, ← hr, List.getElem?_append_right (Nat.le_refl _), Nat.sub_self]
      rfl
theorem rd_write {H : Hp} {a p : Addr} {xs ys : List V} {u : HO} (h : Rd H a (.tup xs)) (hp : H p = some (.lst ys)) : Rd (upd H p u) a (.tup xs) := rd_keep h hp (fun _ z => nomatch z) (fun _ _ z => nomatch z)
theorem rd_dn {P : Program} {w : World} {H H' : Hp} {a p : Addr} {xs : List V} {ks : List (List (Option Key))} (h : Rd H a (.tup xs)) (d : DN P w H p ks) (k : ∀ c, c ≠ p → H' c = H c) : Rd H' a (.tup xs) := by
  obtain ⟨⟨zs, hp, _⟩, _⟩ := d
  have ne : a ≠ p := fun z => by
    rw [z] at h
    rcases h with h | ⟨ob, h⟩
    · rw [hp] at h
      cases h
    · rw [hp] at h
      cases h
  rcases h with h | ⟨ob, h⟩
  · exact .inl (by rw [k _ ne]; exact h)
  · exact .inr ⟨ob, by rw [k _ ne]; exact h⟩
theorem txR_len (u : List Nat) : (txR u).length = u.length := by
  show (mkS (u.reverse.map (97 + ·))).length = _
  rw [mkS_len, List.length_map, List.length_reverse]

section
variable {P : Program} {w : World} {K : PySem.W.Frag} {mg : Str → Option Value} {base : Heap}
theorem scParting : FnScope ["_law_one_here", "_law_other", "_law_known", "_law_layer", "_law_further", "_law_word", "_law_state", "_law_second", "_law_letter", "_law_pair"] ["_law_one_here", "_law_other"] (defScope sParting) := ⟨rfl, rfl, rfl, by decide +kernel, rfl, by decide +kernel, by decide +kernel⟩
def spParting (K : PySem.W.Frag) : Sp := fun vs H Q _ => ∃ (L : Nat) (r1 r2 : Rows) (e1 e2 : List Bool) (x y : V) (B1 B2 : Addr → Prop), vs = [x, y] ∧ Dt B1 K H x (machDt L r1 e1) ∧ Dt B2 K H y (machDt L r2 e2) ∧ MOk L r1 e1 ∧ MOk L r2 e2 ∧
  ∀ H' o, Same H H' → First (Unl L r1 r2 e1 e2) L o → (∀ u, o = some u → u.length ≤ 160801) → Q (txO o) H'
theorem ok_parting {f fNX fEN : Addr} {fd fdNX fdEN : FuncData} (F : Fun K "_law_parting" "_law_parting" sParting f fd)
    (NX : FnOk P w K mg base CX0 1 fNX fdNX ["_law_machine_here", "_law_state", "_law_letter"] (spNext K)) (FNX : Fun K "_law_next" "_law_next" sNext fNX fdNX) (bNX : Binds K fdNX ["_law_machine_here", "_law_state", "_law_letter"] []) (gNX : mg "_law_next" = some (.ref fNX))
    (EN : FnOk P w K mg base CX0 1 fEN fdEN ["_law_machine_here", "_law_state"] (spEnd K)) (FEN : Fun K "_law_end" "_law_end" sEnd fEN fdEN) (bEN : Binds K fdEN ["_law_machine_here", "_law_state"] []) (gEN : mg "_law_end" = some (.ref fEN)) (T : Mg mg) : FnOk P w K mg base CX0 2 f fd ["_law_one_here", "_law_other"] (spParting K) := by
  refine F.ok scParting (fun vs H Q E h => ?_) (fun cdv A outer s H vs Q E hr h => ?_)
  · obtain ⟨L, r1, r2, e1, e2, x, y, B1, B2, rfl, _⟩ := h
    rfl
  · obtain ⟨L, r1, r2, e1, e2, x, y, B1, B2, rfl, hx, hy, M1, M2, k⟩ := h
    have hu1 := hu_of hr
    have hu0 := hr.units0
    refine ⟨_, (pss_cons (ps_par (i := 2) (j := 3) rfl scParting.nd rfl rfl (by decide) rfl rfl (pa_cons (pe_dict1N hu0 (pe_tup (pa_cons pe_int (pa_cons pe_int pa_nil))) pe_bl) (pa_cons (pe_lst (pa_cons (pe_tup (pa_cons pe_str (pa_cons pe_int (pa_cons pe_int pa_nil)))) pa_nil)) pa_nil)) (by rfl))
      (pss_cons (ps_while PassesOwn.never (pt_cmpR (op_neNilL hu0) (pv 3) (pe_lst pa_nil) (nomark _)) (pss_cons (ps_set (i := 4) scParting.nd rfl (.inl rfl) (pe_lst pa_nil))
      (pss_cons (ps_for PassesOwn.never rfl (pi_list (pv 3)) (pg_tup rfl (pgs_cons (pg_name (i := 5) scParting.nd rfl (.inl rfl)) (pgs_cons (pg_name (i := 6) scParting.nd rfl (.inl rfl)) (pgs_cons (pg_name (i := 7) scParting.nd rfl (.inl rfl)) pgs_nil)))) (pss_cons (ps_if (pt_cmpR op_ne (pe_call EN (hr.mono (by decide)) (by rfl) gEN FEN.kp bEN .nil pass0 (pa_cons (pv 0) (pa_cons (pv 6) pa_nil))) (pe_call EN (hr.mono (by decide)) (by rfl) gEN FEN.kp bEN .nil pass0 (pa_cons (pv 1) (pa_cons (pv 7) pa_nil))) (nomark _)) (pss_one (ps_ret (pv 5))) pss_nil)
      (pss_one (ps_for PassesOwn.never rfl (pi_str (pe_slice sl_str pe_str po_none (po_some (pe_ix (r := rIxT K) ix_tup (pv 0) pe_int (fun _ _ => rfl))))) (pg_name (i := 8) scParting.nd rfl (.inl rfl)) (pss_cons (ps_set (i := 9) scParting.nd rfl (.inl rfl) (pe_tup (pa_cons (pe_call NX (hr.mono (by decide)) (by rfl) gNX FNX.kp bNX .nil pass0 (pa_cons (pv 0) (pa_cons (pv 6) (pa_cons (pv 8) pa_nil)))) (pa_cons (pe_call NX (hr.mono (by decide)) (by rfl) gNX FNX.kp bNX .nil pass0 (pa_cons (pv 1) (pa_cons (pv 7) (pa_cons (pv 8) pa_nil)))) pa_nil))))
      (pss_one (ps_if (pt_cmp (pc_notinN hu1 (pv 9) (pv 2))) (pss_cons (ps_asg pe_bl (pg_sub (pv 2) (pv 9) (set_dn hu1)))
      (pss_one (ps_expr (pe_bm PySem.F.plainAttrs_list PySem.F.slot_list_append PySem.F.type_list_append mt_append (pv 4) (pa_cons (pe_op op_catS (pe_tup (pa_cons (pe_op op_add_str (pv 5) (pv 8)) pa_nil)) (pv 9)) pa_nil))))) pss_nil)))))))
      (pss_one (ps_set (i := 3) scParting.nd rfl (.inl rfl) (pv 4))))))
      (pss_one (ps_ret pe_non)))), ?_⟩
    have L1 := M1.L1
    have L3 := M1.L3
    have n1 := M1.l400
    have n2 := M2.l400
    obtain ⟨ma, pra, pea, rva, rfl, nba, MA1⟩ := dt_mach hx
    have nN : (r1.length + 1) * (r2.length + 1) ≤ 160801 := Nat.mul_le_mul (Nat.succ_le_succ n1) (Nat.succ_le_succ n2)
    refine fun dn hdn => ⟨by show 2 ≤ sizeLine; decide, fun t0 ht0 => ⟨?_, kkP (some 0, some 0), t0, rfl, by rw [kk_V]; exact upd_same, fun H1 d1 ho1 => ?_⟩⟩
    · rw [upd_ne (ne_of_none upd_same ht0)]
      exact upd_same
    have s1 : Same H H1 := fun b o e => by
      have nb : b ≠ dn := ne_of_none e hdn
      have nt : b ≠ t0 := ne_of_none (show (upd H dn (dnO P w dn [])) b = some o by rw [upd_ne nb]; exact e) ht0
      rw [ho1 b nb, upd_ne nt, upd_ne nb]
      exact e
    have dn0 : H dn = none := hdn
    clear ho1 ht0 hdn
    refine ⟨by show 3 ≤ sizeLine; decide, fun t1 ht1 => ⟨by show 1 ≤ sizeLine; decide, fun la hla => ?_⟩⟩
    have t2 := same_new (o := .tup [.str "", .int 0, .int 0]) ht1
    have rt1 : Rd (upd H1 t1 (.tup [.str "", .int 0, .int 0])) t1 (.tup [.str "", .int 0, .int 0]) := .inl upd_same
    have d2 := d1.same t2
    have s2 := s1.trans t2
    clear ht1 t2 d1 s1
    generalize upd H1 t1 (.tup [.str "", .int 0, .int 0]) = H2 at *
    have t3 := same_new (o := .lst [.ref t1]) hla
    have hl3 : (upd H2 la (.lst [.ref t1])) la = some (.lst ([t1].map V.ref)) := upd_same
    have d3 := d2.same t3
    have s3 := s2.trans t3
    have rt3 := same_rd t3 rt1
    clear hla t3 d2 s2 rt1
    generalize upd H2 la (.lst [.ref t1]) = H3 at *
    refine ⟨_, _, rfl, ?_⟩
    have e0 : cdP r1.length r2.length (some 0, some 0) = 0 := by
      show 0 * (r2.length + 1) + 0 = 0
      rw [Nat.zero_mul]
    refine while_m (fun m σ H' => ∃ (la : Addr) (p : Nat) (ps : List PO) (reps : List (List Nat)) (tas : List Addr) (y4 y5 y6 y7 y8 y9 : Option V), m = (r1.length + 1) * (r2.length + 1) - p ∧ σ = [some (.ref ma), some y, some (.ref dn), some (.ref la), y4, y5, y6, y7, y8, y9] ∧ Same H H' ∧ DN P w H' dn (ps.map kkP) ∧ H' la = some (.lst (tas.map V.ref)) ∧ Lay H' tas ps reps p ∧ p + tas.length = ps.length ∧ Bfs (gT (gPair L r1 r2)) (fun _ => false) L 0 (ps.map (cdP r1.length r2.length)) reps p 0 ∧ (∀ q ∈ ps, POk r1.length r2.length q) ∧ ∀ i v, i < p → (ps.map (cdP r1.length r2.length))[i]? = some v → wPair e1 e2 v = false)
      ⟨_, la, 0, [(some 0, some 0)], [[]], [t1], none, none, none, none, none, none, rfl, rfl, s3, d3, hl3, ?_, rfl, by rw [List.map_cons, e0]; exact bfs_start rfl, ?_, fun i v h => absurd h (Nat.not_lt_zero _)⟩ ?_ ?_
    · intro i a e
      cases i with
      | zero =>
        cases e
        exact ⟨(some 0, some 0), [], rfl, rfl, rt3⟩
      | succ i => cases e
    · intro q hq
      rw [List.mem_singleton.mp hq]
      exact ⟨fun u e => by cases e; exact M1.l1, fun u e => by cases e; exact M2.l1⟩
    · rintro m σ H4 ⟨la, p, ps, reps, tas, y4, y5, y6, y7, y8, y9, rfl, rfl, s4, d4, hl4, ly4, pl, B4, ok4, hn4⟩
      have bnd : ∀ {ps : List PO}, (ps.map (cdP r1.length r2.length)).Nodup → (∀ q ∈ ps, POk r1.length r2.length q) → ps.length ≤ (r1.length + 1) * (r2.length + 1) := fun {ps} nd ok => by
        have := nodup_len nd fun x hx => by
          obtain ⟨q, hq, rfl⟩ := List.mem_map.mp hx
          exact cd_lt (ok q hq)
        rw [List.length_map] at this
        exact this
      have pN := bnd B4.nd ok4
      refine ⟨_, rfl, by show 0 ≤ sizeLine; decide, fun e0 he0 => ⟨la, e0, _, rfl, rfl, SqL.of (same_new he0 _ _ hl4), SqL.of upd_same, _, rfl, ?_⟩⟩
      have t5 := same_new (o := .lst []) he0
      have d5 := d4.same t5
      have hl5 := t5 _ _ hl4
      have ly5 := ly4.same t5
      have s5 := s4.trans t5
      clear he0 t5 d4 hl4 ly4 s4
      generalize upd H4 e0 (.lst []) = H5 at *
      by_cases ht : tas = []
      · subst ht
        refine k H5 none s5 (B4.nothing ?_ hn4) (fun u e => by cases e)
        rw [List.length_map]
        have : p + 0 = ps.length := pl
        omega
      · have hne : decide (tas.map V.ref = []) = false := decide_eq_false fun z => ht (List.map_eq_nil_iff.mp z)
        have tpos : 0 < tas.length := List.length_pos_iff.mpr ht
        rw [hne]
        refine ⟨by show 0 ≤ sizeLine; decide, fun fu hfu => ?_⟩
        have t6 := same_new (o := .lst []) hfu
        have d6 := d5.same t6
        have hl6 := t6 _ _ hl5
        have ly6 := ly5.same t6
        have s6 := s5.trans t6
        have fu0 : H fu = none := s5.free hfu
        have lf : la ≠ fu := fun z => by rw [← z, hl5] at hfu; cases hfu
        have hf6 : (upd H5 fu (.lst [])) fu = some (.lst (([] : List Addr).map V.ref)) := upd_same
        clear hfu t6 d5 hl5 ly5 s5
        generalize upd H5 fu (.lst []) = H6 at *
        refine ⟨_, rfl, la, rfl, ⟨_, SqL.of hl6⟩, ?_⟩
        refine for_list (K := K) (a := la) (xs := tas.map V.ref) (fun i σ H' => ∃ (ps' : List PO) (reps' : List (List Nat)) (fas : List Addr) (y5 y6 y7 y8 y9 : Option V), σ = [some (.ref ma), some y, some (.ref dn), some (.ref la), some (.ref fu), y5, y6, y7, y8, y9] ∧ Same H H' ∧ DN P w H' dn (ps'.map kkP) ∧ H' la = some (.lst (tas.map V.ref)) ∧ H' fu = some (.lst (fas.map V.ref)) ∧ Lay H' tas ps' reps' p ∧ Lay H' fas ps' reps' ps.length ∧ ps.length + fas.length = ps'.length ∧ Bfs (gT (gPair L r1 r2)) (fun _ => false) L 0 (ps'.map (cdP r1.length r2.length)) reps' (p + i) 0 ∧ (∀ q ∈ ps', POk r1.length r2.length q) ∧ ∀ i' v, i' < p + i → (ps'.map (cdP r1.length r2.length))[i']? = some v → wPair e1 e2 v = false)
          ⟨ps, reps, [], y5, y6, y7, y8, y9, rfl, s6, d6, hl6, hf6, ly6, fun i a e => (by cases e), rfl, B4, ok4, hn4⟩ (fun i σ H' _ q => by
            obtain ⟨_, _, _, _, _, _, _, _, _, _, _, hl, _⟩ := q
            exact SqL.of hl) ?_ ?_
        · rintro i x σ H7 hx7 ⟨ps', reps', fas, y5, y6, y7, y8, y9, rfl, s7, d7, hl7, hf7, ly7, lf7, fl, B7, ok7, hn7⟩
          rw [List.getElem?_map] at hx7
          obtain ⟨ta, hta, rfl⟩ := Option.map_eq_some_iff.mp hx7
          obtain ⟨q, r, hq, hr7, rd7⟩ := ly7 i ta hta
          have okq := ok7 q (List.mem_of_getElem? hq)
          have hcq : (ps'.map (cdP r1.length r2.length))[p + i]? = some (cdP r1.length r2.length q) := by rw [List.getElem?_map, hq]; rfl
          refine ⟨ta, _, rfl, .inl rd7, rfl, _, _, rfl, _, _, rfl, _, _, rfl, rfl, ?_⟩
          refine ⟨_, rfl, _, rfl, B1, _, L, r1, e1, q.1, rfl, same_dt s7 hx, M1, okq.1, _, rfl, _, rfl, B2, y, L, r2, e2, q.2, rfl, same_dt s7 hy, M2, okq.2, rfl, _, rfl, ite2 (fun hz => ?_) (fun hz => ?_)⟩
          · have hw : wPair e1 e2 (cdP r1.length r2.length q) = true := by
              rw [wP_cd M1 M2 okq]
              cases ea : endO e1 q.1 <;> cases eb : endO e2 q.2 <;> rw [ea, eb] at hz <;> first | rfl | cases hz
            exact ⟨_, rfl, k H7 (some r) s7 (B7.hit hcq hr7 hw hn7) (fun u e => by
              cases e
              have b1 := B7.len _ _ hr7
              have b2 := bnd B7.nd ok7
              have b3 := (List.getElem?_eq_some_iff.mp hq).1
              omega)⟩
          · have hw : wPair e1 e2 (cdP r1.length r2.length q) = false := by
              rw [wP_cd M1 M2 okq]
              cases ea : endO e1 q.1 <;> cases eb : endO e2 q.2 <;> rw [ea, eb] at hz <;> first | rfl | exact absurd rfl hz
            have MA7 := MA1.same s7
            refine ⟨_, rfl, ma, _, 0, .int (L : Int), rfl, rfl, .inl MA7.hm, atI_nat (j := 0) rfl, (L : Int), rfl, "abc", rfl, by decide, wS (List.range L), congrArg V.str (abc_cut L1 L3), ?_⟩
            refine for_it walk_str (fun j σ H' => ∃ (ps2 : List PO) (reps2 : List (List Nat)) (fas : List Addr) (y8 y9 : Option V), σ = [some (.ref ma), some y, some (.ref dn), some (.ref la), some (.ref fu), some (.str (txR r)), some (oV q.1), some (oV q.2), y8, y9] ∧ Same H H' ∧ DN P w H' dn (ps2.map kkP) ∧ H' la = some (.lst (tas.map V.ref)) ∧ H' fu = some (.lst (fas.map V.ref)) ∧ Lay H' tas ps2 reps2 p ∧ Lay H' fas ps2 reps2 ps.length ∧ ps.length + fas.length = ps2.length ∧ Bfs (gT (gPair L r1 r2)) (fun _ => false) L 0 (ps2.map (cdP r1.length r2.length)) reps2 (p + i) j ∧ (∀ q ∈ ps2, POk r1.length r2.length q) ∧ (∀ i' v, i' < p + i → (ps2.map (cdP r1.length r2.length))[i']? = some v → wPair e1 e2 v = false) ∧ ps2[p + i]? = some q ∧ reps2[p + i]? = some r)
              ⟨ps', reps', fas, y8, y9, rfl, s7, d7, hl7, hf7, ly7, lf7, fl, B7, ok7, hn7, hq, hr7⟩ (fun _ _ _ _ _ => True.intro) ?_ ?_
            · rintro j x σ H8 H9 hj ⟨ps2, reps2, fas, y8, y9, rfl, s8, d8, hl8, hf8, ly8, lf8, fl8, B8, ok8, hn8, hq8, hr8⟩ ⟨rfl, x, hxj, rfl⟩
              obtain ⟨j', hj', rfl⟩ := wS_at hxj
              have jL : j < L := by
                have := (List.getElem?_eq_some_iff.mp hj').1
                rw [List.length_range] at this
                exact this
              rw [List.getElem?_range jL] at hj'
              cases hj'
              have okn := nxP_ok (p := q) M1 M2 j
              have hc8 : (ps2.map (cdP r1.length r2.length))[p + i]? = some (cdP r1.length r2.length q) := by rw [List.getElem?_map, hq8]; rfl
              have gt8 := gT_cd M1 M2 okq jL
              have r8 := B8.len _ _ hr8
              have l8 := bnd B8.nd ok8
              have pi8 := (List.getElem?_eq_some_iff.mp hq8).1
              refine ⟨_, rfl, _, rfl, _, rfl, B1, _, L, r1, e1, q.1, j, rfl, same_dt s8 hx, M1, jL, okq.1, _, rfl, _, rfl, _, rfl, B2, y, L, r2, e2, q.2, j, rfl, same_dt s8 hy, M2, jL, okq.2, by show 2 ≤ sizeLine; decide, fun tp htp => ?_⟩
              have t9 := same_new (o := .tup [oV (nxP r1 r2 q j).1, oV (nxP r1 r2 q j).2]) htp
              have hp9 : (upd H9 tp (.tup [oV (nxP r1 r2 q j).1, oV (nxP r1 r2 q j).2])) tp = some (.tup ((kkP (nxP r1 r2 q j)).map okV)) := by
                rw [kk_V]
                exact upd_same
              have s9 := s8.trans t9
              have d9 := d8.same t9
              have hl9 := t9 _ _ hl8
              have hf9 := t9 _ _ hf8
              have ly9 := ly8.same t9
              have lf9 := lf8.same t9
              clear htp t9 s8 d8 hl8 hf8 ly8 lf8
              generalize hG : upd H9 tp (.tup [oV (nxP r1 r2 q j).1, oV (nxP r1 r2 q j).2]) = G9 at *
              have hG' : upd H9 tp (.tup [oV (q.1.bind fun u => nx r1 u j), oV (q.2.bind fun u => nx r2 u j)]) = G9 := hG
              rw [hG']
              clear hG hG'
              refine ⟨_, rfl, _, rfl, dn, tp, kkP (nxP r1 r2 q j), _, rfl, rfl, d9, hp9, _, rfl, ?_⟩
              by_cases inn : nxP r1 r2 q j ∈ ps2
              · rw [inN_iff.mpr (kk_mem.mpr inn)]
                exact ⟨ps2, reps2, fas, _, _, rfl, s9, d9, hl9, hf9, ly9, lf9, fl8, B8.skip hc8 jL (by rw [gt8]; exact (cd_mem okn ok8).mpr inn), ok8, hn8, hq8, hr8⟩
              · rw [inN_no fun z => inn (kk_mem.mp z)]
                refine ⟨_, rfl, _, rfl, dn, tp, kkP (nxP r1 r2 q j), _, rfl, rfl, d9, hp9, fun z => inn (kk_mem.mp z), by rw [List.length_map]; exact Nat.le_of_lt (small6 (by omega)), fun H10 d10 ho10 => ?_⟩
                have nld : la ≠ dn := fun z => by
                  obtain ⟨o, h1, h2, _⟩ := d9.obj
                  rw [← z, hl9] at h1
                  exact h2 _ (Option.some.inj h1).symm
                have nfd : fu ≠ dn := fun z => by
                  obtain ⟨o, h1, h2, _⟩ := d9.obj
                  rw [← z, hf9] at h1
                  exact h2 _ (Option.some.inj h1).symm
                have ntd : tp ≠ dn := fun z => by
                  obtain ⟨o, h1, _, h2⟩ := d9.obj
                  rw [← z, hp9] at h1
                  exact h2 _ (Option.some.inj h1).symm
                have s10 : Same H H10 := fun b o e => by
                  rw [ho10 b (ne_of_none e dn0)]
                  exact s9 _ _ e
                have hl10 : H10 la = some (.lst (tas.map V.ref)) := by rw [ho10 _ nld]; exact hl9
                have hf10 : H10 fu = some (.lst (fas.map V.ref)) := by rw [ho10 _ nfd]; exact hf9
                have hp10 : H10 tp = some (.tup ((kkP (nxP r1 r2 q j)).map okV)) := by rw [ho10 _ ntd]; exact hp9
                rw [kk_V] at hp10
                have ly10 := ly9.keep (H' := H10) fun a xs h => rd_dn h d9 ho10
                have lf10 := lf9.keep (H' := H10) fun a xs h => rd_dn h d9 ho10
                clear d9 hl9 hf9 hp9 ly9 lf9 s9 ho10
                refine ⟨_, rfl, .inl ⟨rfl, _, SqL.of hf10⟩, _, rfl, _, rfl, txR r, ⟨#[97 + j]⟩, rfl, rfl, ?_, by show 1 ≤ sizeLine; decide, fun tw htw => ?_⟩
                · rw [txR_len]
                  exact Nat.le_of_lt (small6 (n := r.length + 1) (by omega))
                have t11 := same_new (o := .tup [.str (txR r ++ ⟨#[97 + j]⟩)]) htw
                refine ⟨_, rfl, tw, tp, _, _, rfl, rfl, .inl upd_same, .inl (t11 _ _ hp10), by show 3 ≤ sizeLine; decide, fun te H12 s12 rte _ => ?_⟩
                have t12 := t11.trans s12
                have hf12 := t12 _ _ hf10
                have hl12 := t12 _ _ hl10
                have d12 := d10.same t12
                have ly12 := ly10.same t12
                have lf12 := lf10.same t12
                have s12' := s10.trans t12
                rw [txR_snoc] at rte
                have rte : Rd H12 te (.tup [.str (txR (j :: r)), oV (nxP r1 r2 q j).1, oV (nxP r1 r2 q j).2]) := rte
                have B12 := B8.add hc8 hr8 jL (by rw [gt8]; exact fun z => inn ((cd_mem okn ok8).mp z)) rfl
                rw [gt8] at B12
                have en : ps2.map (cdP r1.length r2.length) ++ [cdP r1.length r2.length (nxP r1 r2 q j)] = (ps2 ++ [nxP r1 r2 q j]).map (cdP r1.length r2.length) := by
                  rw [List.map_append]
                  rfl
                rw [en] at B12
                have rl8 : reps2.length = ps2.length := by
                  have := B8.ln
                  rw [List.length_map] at this
                  exact this.symm
                have ok12 : ∀ z ∈ ps2 ++ [nxP r1 r2 q j], POk r1.length r2.length z := fun z hz => by
                  rcases List.mem_append.mp hz with hz | hz
                  · exact ok8 z hz
                  · rw [List.mem_singleton.mp hz]
                    exact okn
                have l12 := bnd B12.nd ok12
                rw [List.length_append, List.length_singleton] at l12
                refine ⟨fu, _, _, rfl, rfl, hf12, small6 (by rw [List.length_map]; omega), ps2 ++ [nxP r1 r2 q j], reps2 ++ [j :: r], fas ++ [te], _, _, rfl, fun b o e => ?_, ?_, ?_, by rw [upd_same, List.map_append]; rfl, (ly12.more).keep fun a xs h => rd_write h hf12, (lf12.push fl8 rl8 rte).keep fun a xs h => rd_write h hf12, by rw [List.length_append, List.length_append, List.length_singleton, List.length_singleton]; omega, B12, ok12, fun i' v hi' e => ?_, ?_, ?_⟩
                · rw [upd_ne (ne_of_none e fu0)]
                  exact s12' _ _ e
                · have := d12.write (o := .lst (fas.map V.ref ++ [.ref te])) hf12
                  rw [List.map_append]
                  exact this
                · rw [upd_ne lf]
                  exact hl12
                · rw [List.map_append, List.getElem?_append_left (by rw [List.length_map]; omega)] at e
                  exact hn8 i' v hi' e
                · rw [List.getElem?_append_left pi8]
                  exact hq8
                · rw [List.getElem?_append_left (by omega)]
                  exact hr8
            · rintro σ H8 ⟨ps2, reps2, fas, y8, y9, rfl, s8, d8, hl8, hf8, ly8, lf8, fl8, B8, ok8, hn8, hq8, hr8⟩
              rw [wS_len, List.length_range] at B8
              refine ⟨ps2, reps2, fas, _, _, _, _, _, rfl, s8, d8, hl8, hf8, ly8, lf8, fl8, B8.next (Nat.le_refl _), ok8, fun i' v hi' e => ?_⟩
              by_cases z : i' < p + i
              · exact hn8 i' v z e
              · have : i' = p + i := by omega
                subst this
                rw [List.getElem?_map, hq8] at e
                cases e
                exact hw
        · rintro σ H7 ⟨ps', reps', fas, y5, y6, y7, y8, y9, rfl, s7, d7, hl7, hf7, ly7, lf7, fl, B7, ok7, hn7⟩
          rw [List.length_map, pl] at B7 hn7
          have l7 := bnd B7.nd ok7
          exact ⟨_, rfl, (r1.length + 1) * (r2.length + 1) - ps.length, by omega, fu, ps.length, ps', reps', fas, _, _, _, _, _, _, rfl, rfl, s7, d7, hf7, lf7, fl, B7, ok7, hn7⟩
    · rintro σ H1 Q1 Q2 hQ ⟨x, e1, z, h⟩
      refine ⟨x, e1, z, fun p hp => ?_⟩
      obtain ⟨l, b, xs, f1, f2, f3, f4, c, f5, q⟩ := h p hp
      exact ⟨l, b, xs, f1, f2, f3, f4, c, f5, hQ _ _ q⟩
end
/-! lots as data -/
def lotD (l : List Nat) : PyData := .list (l.map fun n : Nat => .int (n : Int))
theorem lot_lay : ∀ l : List Nat, PyData.canLayAll0 (l.map fun n : Nat => PyData.int (n : Int)) = true
  | [] => by simp [PyData.canLayAll0]
  | n :: l => by simp [PyData.canLayAll0, PyData.canLay0]; simpa using lot_lay l
theorem lot_dep : ∀ l : List Nat, PyData.depthAll (l.map fun n : Nat => PyData.int (n : Int)) ≤ 1
  | [] => by simp [PyData.depthAll]
  | n :: l => by
    have := lot_dep l
    simp only [List.map_cons, PyData.depthAll, PyData.depth]
    omega
theorem lotD_lay (l : List Nat) : (lotD l).canLay0 = true := by
  unfold lotD
  simp only [PyData.canLay0]
  exact lot_lay l
theorem lotD_dep (l : List Nat) : (lotD l).depth ≤ 2 := by
  have := lot_dep l
  unfold lotD
  simp only [PyData.depth]
  omega
theorem lots_lay : ∀ ls : List (List Nat), PyData.canLayAll0 (ls.map lotD) = true
  | [] => by simp [PyData.canLayAll0]
  | l :: ls => by simp [PyData.canLayAll0, lotD_lay l, lots_lay ls]
theorem lots_dep : ∀ ls : List (List Nat), PyData.depthAll (ls.map lotD) ≤ 2
  | [] => by simp [PyData.depthAll]
  | l :: ls => by
    have h1 := lots_dep ls
    have h2 := lotD_dep l
    simp only [List.map_cons, PyData.depthAll]
    omega
theorem lotD_shaped (l : List Nat) : SeqAt.shaped (lotD l) = true := by
  have h := lotD_dep l
  show ((lotD l).canLay0 && decide ((lotD l).depth ≤ 64)) = true
  rw [Bool.and_eq_true]
  exact ⟨lotD_lay l, decide_eq_true (by omega)⟩
theorem lots_shaped (ls : List (List Nat)) : SeqAt.shaped (.list (ls.map lotD)) = true := by
  have h1 := lots_dep ls
  have h2 : PyData.depth (.list (ls.map lotD)) ≤ 64 := by
    simp only [PyData.depth]
    omega
  show (PyData.canLay0 (.list (ls.map lotD)) && decide (PyData.depth (.list (ls.map lotD)) ≤ 64)) = true
  rw [Bool.and_eq_true]
  exact ⟨by simp only [PyData.canLay0]; exact lots_lay ls, decide_eq_true h2⟩
theorem lot_eqvAll : ∀ a b : List Nat, PyData.eqvAll (a.map fun n : Nat => PyData.int (n : Int)) (b.map fun n : Nat => PyData.int (n : Int)) = decide (a = b)
  | [], [] => by simp [PyData.eqvAll]
  | [], _ :: _ => by simp [PyData.eqvAll]
  | _ :: _, [] => by simp [PyData.eqvAll]
  | x :: a, y :: b => by
    have ih := lot_eqvAll a b
    simp only [List.map_cons, PyData.eqvAll, PyData.eqv, ih]
    by_cases h : x = y
    · subst h
      simp
    · have q : ((x : Int) == (y : Int)) = false := beq_eq_false_iff_ne.mpr (by omega)
      rw [q, Bool.false_and]
      symm
      exact decide_eq_false fun z => h (List.cons.inj z).1
theorem lotD_eqv (a b : List Nat) : PyData.eqv (lotD a) (lotD b) = decide (a = b) := by
  unfold lotD
  simp only [PyData.eqv]
  exact lot_eqvAll a b
theorem lots_any (ls : List (List Nat)) (l : List Nat) : ((ls.map lotD).any fun z => PyData.eqv z (lotD l)) = decide (l ∈ ls) := by
  rw [Bool.eq_iff_iff, List.any_eq_true, decide_eq_true_eq]
  constructor
  · rintro ⟨z, hz, e⟩
    obtain ⟨x, hx, rfl⟩ := List.mem_map.mp hz
    rw [lotD_eqv, decide_eq_true_eq] at e
    exact e ▸ hx
  · exact fun h => ⟨lotD l, List.mem_map.mpr ⟨l, h, rfl⟩, by rw [lotD_eqv]; exact decide_eq_true rfl⟩
theorem int_dp {K : PySem.W.Frag} {H : Hp} : ∀ l : List Nat, DpAll K H (l.map natV) (l.map fun n : Nat => PyData.int (n : Int))
  | [] => .nil
  | n :: l => .cons (.int _) (int_dp l)
theorem lot_dp {K : PySem.W.Frag} {H : Hp} {a : Addr} {l : List Nat} (h : H a = some (.lst (l.map natV))) : Dp K H (.ref a) (lotD l) := .lst (SqL.of h) (int_dp l)
theorem lots_all {K : PySem.W.Frag} {H : Hp} : ∀ {ma : List Addr} {ls : List (List Nat)}, MemAt H ma ls → DpAll K H (ma.map V.ref) (ls.map lotD)
  | [], [], _ => .nil
  | [], _ :: _, h => by cases h.ln
  | _ :: _, [], h => by cases h.ln
  | a :: ma, l :: ls, h => .cons (lot_dp (h.at_ 0 a rfl)) (lots_all ⟨Nat.succ.inj h.ln, fun b x e => h.at_ (b + 1) x e⟩)
theorem lots_dp {K : PySem.W.Frag} {H : Hp} {p : Addr} {ma : List Addr} {ls : List (List Nat)} (hp : H p = some (.lst (ma.map V.ref))) (h : MemAt H ma ls) : Dp K H (.ref p) (.list (ls.map lotD)) := .lst (SqL.of hp) (lots_all h)
/-! the machine of lots -/
def preL (rs : Rws) (l : List Nat) (c : Nat) : List Nat := (List.range rs.length).filter fun s => inO l (nx rs s c)
def endL (rs : Rws) (es : List Bool) : List Nat := (List.range rs.length).filter fun s => es.getD s false
structure TV (rs : Rws) (es : List Bool) (L : Nat) (lots : List (List Nat)) (found : Rws) (row : List (Option Nat)) : Prop where
  nd : lots.Nodup
  fl : ∀ l ∈ lots, ∃ t : Nat → Bool, l = (List.range rs.length).filter t
  le : found.length ≤ lots.length
  wide : ∀ r ∈ found, r.length = L
  go : ∀ (i c : Nat) (l : List Nat), lots[i]? = some l → (i < found.length ∧ c < L) ∨ (i = found.length ∧ c < row.length) → ∃ j, nx (found ++ [row]) i c = some j ∧ lots[j]? = some (preL rs l c)
  tg : ∀ r ∈ found, ∀ o ∈ r, ∃ j, o = some j ∧ j < lots.length
  tr : ∀ o ∈ row, ∃ j, o = some j ∧ j < lots.length
  zero : lots[0]? = some (endL rs es)
section
variable {rs : Rws} {es : List Bool} {L : Nat} {lots lots' : List (List Nat)} {found : Rws} {row : List (Option Nat)}
theorem tv_start : TV rs es L [endL rs es] [] [] where
  nd := List.nodup_cons.mpr ⟨List.not_mem_nil, List.nodup_nil⟩
  fl := fun l hl => ⟨_, List.mem_singleton.mp hl⟩
  le := Nat.zero_le _
  wide := fun r hr => absurd hr List.not_mem_nil
  go := fun i c l _ h => by
    rcases h with ⟨h, _⟩ | ⟨_, h⟩
    · exact absurd h (Nat.not_lt_zero _)
    · exact absurd h (Nat.not_lt_zero _)
  tg := fun r hr => absurd hr List.not_mem_nil
  tr := fun r hr => absurd hr List.not_mem_nil
  zero := rfl
theorem TV.app (h : TV rs es L lots found row) {more : List (List Nat)} {l : List Nat} {j : Nat} (em : lots' = lots ++ more) (nd : lots'.Nodup) (fl : ∀ l ∈ lots', ∃ t : Nat → Bool, l = (List.range rs.length).filter t) (hl : lots[found.length]? = some l) (hj : lots'[j]? = some (preL rs l row.length)) : TV rs es L lots' found (row ++ [some j]) where
  nd := nd
  fl := fl
  le := by
    have := h.le
    rw [em, List.length_append]
    omega
  wide := h.wide
  go := fun i c l' hl' hi => by
    have jl := (List.getElem?_eq_some_iff.mp hj).1
    rw [nx_more]
    by_cases z : i = found.length ∧ c = row.length
    · rw [if_pos z]
      obtain ⟨rfl, rfl⟩ := z
      rw [em, List.getElem?_append_left (List.getElem?_eq_some_iff.mp hl).1, hl] at hl'
      cases hl'
      exact ⟨j, rfl, hj⟩
    · rw [if_neg z]
      rw [List.length_append, List.length_singleton] at hi
      have hi2 : i < lots.length := by
        have := (List.getElem?_eq_some_iff.mp hl).1
        omega
      rw [em, List.getElem?_append_left hi2] at hl'
      obtain ⟨j', e1, e2⟩ := h.go i c l' hl' (by omega)
      refine ⟨j', e1, ?_⟩
      rw [em, List.getElem?_append_left (List.getElem?_eq_some_iff.mp e2).1]
      exact e2
  tg := fun r hr o ho => by
    obtain ⟨j', e1, e2⟩ := h.tg r hr o ho
    exact ⟨j', e1, by rw [em, List.length_append]; omega⟩
  tr := fun o ho => by
    rcases List.mem_append.mp ho with ho | ho
    · obtain ⟨j', e1, e2⟩ := h.tr o ho
      exact ⟨j', e1, by rw [em, List.length_append]; omega⟩
    · rw [List.mem_singleton.mp ho]
      exact ⟨j, rfl, (List.getElem?_eq_some_iff.mp hj).1⟩
  zero := by
    rw [em, List.getElem?_append_left (List.getElem?_eq_some_iff.mp h.zero).1]
    exact h.zero
theorem TV.old (h : TV rs es L lots found row) {l : List Nat} (hl : lots[found.length]? = some l) (m : preL rs l row.length ∈ lots) : TV rs es L lots found (row ++ [some (lots.idxOf (preL rs l row.length))]) :=
  h.app (List.append_nil _).symm h.nd h.fl hl (by
    have := List.idxOf_lt_length_of_mem m
    rw [List.getElem?_eq_getElem this, List.getElem_idxOf])
theorem TV.new (h : TV rs es L lots found row) {l : List Nat} (hl : lots[found.length]? = some l) (m : preL rs l row.length ∉ lots) : TV rs es L (lots ++ [preL rs l row.length]) found (row ++ [some lots.length]) :=
  h.app rfl (by
    rw [List.nodup_append]
    refine ⟨h.nd, List.nodup_cons.mpr ⟨List.not_mem_nil, List.nodup_nil⟩, fun x hx y hy e => ?_⟩
    rw [List.mem_singleton.mp hy] at e
    exact m (e ▸ hx)) (fun x hx => by
    rcases List.mem_append.mp hx with hx | hx
    · exact h.fl x hx
    · exact ⟨_, List.mem_singleton.mp hx⟩) hl (by rw [List.getElem?_append_right (Nat.le_refl _), Nat.sub_self]; rfl)
theorem TV.whole (h : TV rs es L lots found row) (hl : row.length = L) (hd : found.length < lots.length) : TV rs es L lots (found ++ [row]) [] where
  nd := h.nd
  fl := h.fl
  le := by
    rw [List.length_append, List.length_singleton]
    omega
  wide := fun r hr => by
    rcases List.mem_append.mp hr with hr | hr
    · exact h.wide r hr
    · rw [List.mem_singleton.mp hr]
      exact hl
  go := fun i c l hl' hi => by
    rw [nx_new]
    rw [List.length_append, List.length_singleton] at hi
    refine h.go i c l hl' ?_
    rcases hi with ⟨h1, h2⟩ | ⟨_, h2⟩
    · by_cases z : i = found.length
      · right
        omega
      · left
        omega
    · exact absurd h2 (Nat.not_lt_zero _)
  tg := fun r hr => by
    rcases List.mem_append.mp hr with hr | hr
    · exact h.tg r hr
    · rw [List.mem_singleton.mp hr]
      exact h.tr
  tr := fun r hr => absurd hr List.not_mem_nil
  zero := h.zero
theorem TV.few (h : TV rs es L lots found row) : lots.length ≤ 2 ^ rs.length := by
  have nd : (lots.map bitsN).Nodup := List.pairwise_map.mpr (h.nd.imp_of_mem fun {a b} ha hb ne e => ne (by
    obtain ⟨t, rfl⟩ := h.fl a ha
    obtain ⟨t', rfl⟩ := h.fl b hb
    refine List.filter_congr fun x hx => ?_
    have h1 := bits_bit ((List.range rs.length).filter t) x
    rw [e, bits_bit, decide_eq_decide, List.mem_filter, List.mem_filter] at h1
    rw [Bool.eq_iff_iff]
    exact ⟨fun z => (h1.mpr ⟨hx, z⟩).2, fun z => (h1.mp ⟨hx, z⟩).2⟩))
  have := nodup_len nd fun y hy => by
    obtain ⟨l, hl, rfl⟩ := List.mem_map.mp hy
    obtain ⟨t, rfl⟩ := h.fl l hl
    exact bit_lt (n := rs.length) fun p hp => by
      rw [bits_bit, decide_eq_true_eq] at hp
      exact List.mem_range.mp (List.mem_filter.mp hp).1
  rw [List.length_map] at this
  exact this
def zeroL (lots : List (List Nat)) : List Bool := lots.map fun l => decide (0 ∈ l)
theorem TV.rv {es : List Bool} (M : MOk L rs es) (h : TV rs es L lots found []) (hl : found.length = lots.length) : RevOf rs es found (zeroL lots) := by
  have z0 := (List.getElem?_eq_some_iff.mp h.zero).1
  have R : RV rs L (fun i p => p ∈ lots.getD i []) found (zeroL lots) := {
    wide := h.wide
    wide0 := M.row
    en := fun i hi => by
      have hx : lots[i]? = some lots[i] := List.getElem?_eq_getElem (by omega)
      unfold zeroL
      rw [List.getD_eq_getElem?_getD, List.getElem?_map, hx]
      show decide (0 ∈ lots[i]) = true ↔ _
      rw [decide_eq_true_eq, List.getD_eq_getElem?_getD, hx]
      rfl
    go := fun i c hi hc => by
      have hx : lots[i]? = some lots[i] := List.getElem?_eq_getElem (by omega)
      obtain ⟨j, e1, e2⟩ := h.go i c _ hx (.inl ⟨hi, hc⟩)
      rw [nx_new] at e1
      refine .inl ⟨j, by have := (List.getElem?_eq_some_iff.mp e2).1; omega, e1, fun p r => ?_⟩
      rw [List.getD_eq_getElem?_getD, e2, List.getD_eq_getElem?_getD, hx]
      show p ∈ preL rs lots[i] c ↔ ∃ s, nx rs p c = some s ∧ s ∈ lots[i]
      unfold preL
      rw [List.mem_filter, List.mem_range]
      cases e : nx rs p c with
      | none => exact ⟨fun z => (by cases z.2), fun ⟨s, z, _⟩ => (by cases z)⟩
      | some s => exact ⟨fun z => ⟨s, rfl, of_decide_eq_true z.2⟩, fun ⟨s', e', z⟩ => (by cases e'; exact ⟨M.reach_lt p r, decide_eq_true z⟩)⟩ }
  refine R.rev (by omega) fun p r => ?_
  show p ∈ lots.getD 0 [] ↔ _
  rw [List.getD_eq_getElem?_getD, h.zero]
  show p ∈ endL rs es ↔ _
  unfold endL
  rw [List.mem_filter, List.mem_range]
  exact ⟨fun z => z.2, fun z => ⟨M.reach_lt p r, z⟩⟩
theorem TV.mok {es : List Bool} (M : MOk L rs es) (h : TV rs es L lots found []) (hl : found.length = lots.length) (h4 : lots.length ≤ 400) : MOk L found (zeroL lots) where
  l1 := by
    have := (List.getElem?_eq_some_iff.mp h.zero).1
    omega
  l400 := by omega
  row := h.wide
  tgt := fun r hr v hv => by
    obtain ⟨j, e1, e2⟩ := h.tg r hr _ hv
    cases e1
    omega
  es := by
    unfold zeroL
    rw [List.length_map, hl]
  L1 := M.L1
  L3 := M.L3
end
/-! ### the law's machine of lots -/
theorem inV_oV {l : List Nat} {o : Option Nat} : inV (oV o) (l.map natV) = inO l o := by
  cases o with
  | none =>
    show inV .non (l.map natV) = false
    unfold inV
    rw [List.any_eq_false]
    intro x hx
    obtain ⟨u, _, rfl⟩ := List.mem_map.mp hx
    exact fun z => nomatch z
  | some t => exact notIn_nat
theorem flat_oV (o : Option Nat) : flatV (oV o) = true := by cases o <;> rfl

section
variable {P : Program} {w : World} {K : PySem.W.Frag} {mg : Str → Option Value} {base : Heap}
theorem scTurned : FnScope ["_law_machine_here", "_law_letters", "_law_rows", "_law_ends", "_law_lots", "_law_found", "_law_state", "_law_row", "_law_at", "_law_lot"] ["_law_machine_here"] (defScope sTurned) := ⟨rfl, rfl, rfl, by decide +kernel, rfl, by decide +kernel, by decide +kernel⟩
def spTurned (K : PySem.W.Frag) : Sp := fun vs H Q _ => ∃ (L : Nat) (rs : Rows) (es : List Bool) (x : V) (B : Addr → Prop), vs = [x] ∧ Dt B K H x (machDt L rs es) ∧ MOk L rs es ∧ TB B H ∧ rs.length ≤ 6 ∧
  ∀ (H' : Hp) (v : V) (trs out : Rws) (tes oe : List Bool), Same H H' → Dt B K H' v (machDt L out oe) → MOk L trs tes → RevOf rs es trs tes → Smallest trs tes L out oe → Q v H'
theorem ok_turned {f fLE : Addr} {fd fdLE : FuncData} (F : Fun K "_law_turned" "_law_turned" sTurned f fd)
    (LE : FnOk P w K mg base CX0 2 fLE fdLE ["_law_letters", "_law_rows", "_law_ends"] (spLeast K)) (FLE : Fun K "_law_least" "_law_least" sLeast fLE fdLE) (bLE : Binds K fdLE ["_law_letters", "_law_rows", "_law_ends"] []) (gLE : mg "_law_least" = some (.ref fLE)) (T : Mg mg) : FnOk P w K mg base CX0 3 f fd ["_law_machine_here"] (spTurned K) := by
  refine F.ok scTurned (fun vs H Q E h => ?_) (fun cdv A outer s H vs Q E hr h => ?_)
  · obtain ⟨L, rs, es, x, B, rfl, _⟩ := h
    rfl
  · obtain ⟨L, rs, es, x, B, rfl, hx, M, tb, n6, k⟩ := h
    have hu : (A.deeper (envOfC "_law_turned" (defScope sTurned) s.heap.objs.size f cdv)).units + 65 < cLine := by have := hr.un; omega
    refine ⟨_, (pss_cons (ps_asg (pv 0) (pg_tup rfl (pgs_cons (pg_name (i := 1) scTurned.nd rfl (.inl rfl)) (pgs_cons (pg_name (i := 2) scTurned.nd rfl (.inr rfl)) (pgs_cons (pg_name (i := 3) scTurned.nd rfl (.inr rfl)) pgs_nil)))))
      (pss_cons (ps_asg (pe_tup (pa_cons (pe_lst (pa_cons (pe_lc (own := [("_law_state", 6)]) (g := gName 6) rfl scTurned.nd (pi_range1 (by rfl) T.range (pa_cons (pe_callB (r := rLen K) call_len_seq (by rfl) T.len PySem.boot_len (pa_cons (pv 2) pa_nil)) pa_nil)) (blkOk_by (N := ["_law_machine_here", "_law_letters", "_law_rows", "_law_ends", "_law_lots", "_law_found", "_law_state", "_law_row", "_law_at", "_law_lot"]) (sc := defScope sTurned) (by decide +kernel)) (fun _ _ _ _ _ => pg_name (i := 6) scTurned.nd rfl (Or.inl rfl)) (fun _ _ _ _ _ => pts_one (pt_val (pe_ix (r := rIxT K) ix_tup (pv 3) (pv 6) (fun _ _ => rfl)))) (fun _ _ _ _ _ => (pv 6))) pa_nil)) (pa_cons (pe_lst pa_nil) pa_nil))) (pg_tup rfl (pgs_cons (pg_name (i := 4) scTurned.nd rfl (.inr rfl)) (pgs_cons (pg_name (i := 5) scTurned.nd rfl (.inr rfl)) pgs_nil))))
      (pss_cons (ps_while PassesOwn.never (pt_cmpR op_lt (pe_callB (r := rLen K) call_len_seq (by rfl) T.len PySem.boot_len (pa_cons (pv 5) pa_nil)) (pe_callB (r := rLen K) call_len_seq (by rfl) T.len PySem.boot_len (pa_cons (pv 4) pa_nil)) (nomark _)) (pss_cons (ps_set (i := 7) scTurned.nd rfl (.inl rfl) (pe_lst pa_nil))
      (pss_cons (ps_for PassesOwn.never rfl (pi_range1 (by rfl) T.range (pa_cons (pv 1) pa_nil)) (pg_name (i := 8) scTurned.nd rfl (.inr rfl)) (pss_cons (ps_setLc (i := 9) (own := [("_law_state", 6)]) (g := gName 6) rfl scTurned.nd rfl rfl (sw_true rfl rfl rfl (by decide +kernel)) (pi_range1 (by rfl) T.range (pa_cons (pe_callB (r := rLen K) call_len_seq (by rfl) T.len PySem.boot_len (pa_cons (pv 2) pa_nil)) pa_nil)) (blkOk_by (N := ["_law_machine_here", "_law_letters", "_law_rows", "_law_ends", "_law_lots", "_law_found", "_law_state", "_law_row", "_law_at", "_law_lot"]) (sc := defScope sTurned) (by decide +kernel)) (fun _ _ _ _ _ => pg_name (i := 6) scTurned.nd rfl (Or.inl rfl)) (fun _ _ _ _ _ => pts_one (pt_cmpR (r := rIn K false) op_in_seq (pe_ix (r := rIxT K) ix_tup (pe_ix (r := rIxT K) ix_tup (pv 2) (pv 6) (fun _ _ => rfl)) (pv 8) (fun _ _ => rfl)) (pe_ix (r := rIxL K) ix_list (pv 4) (pe_callB (r := rLen K) call_len_seq (by rfl) T.len PySem.boot_len (pa_cons (pv 5) pa_nil)) (fun _ _ => rfl)) (by rfl))) (fun _ _ _ _ _ => (pv 6)))
      (pss_cons (ps_if (pt_cmpR (op_notInD hu) (pv 9) (pv 4) rfl) (pss_one (ps_expr (pe_bm PySem.F.plainAttrs_list PySem.F.slot_list_append PySem.F.type_list_append mt_append (pv 4) (pa_cons (pv 9) pa_nil)))) pss_nil)
      (pss_one (ps_expr (pe_bm PySem.F.plainAttrs_list PySem.F.slot_list_append PySem.F.type_list_append mt_append (pv 7) (pa_cons (pe_bm (r := rIndexD K) PySem.F.plainAttrs_list PySem.F.slot_list_index PySem.F.type_list_index (mt_indexD hu) (pv 4) (pa_cons (pv 9) pa_nil)) pa_nil)))))))
      (pss_one (ps_expr (pe_bm PySem.F.plainAttrs_list PySem.F.slot_list_append PySem.F.type_list_append mt_append (pv 5) (pa_cons (pe_callTy (r := rTup K) call_tuple_of (by rfl) T.tuple PyProof.Rows.boot_tuple (pa_cons (pv 7) pa_nil)) pa_nil)))))))
      (pss_one (ps_ret (pe_call LE (hr.mono (by decide)) (by rfl) gLE FLE.kp bLE .nil pass0 (pa_cons (pv 1) (pa_cons (pe_callTy (r := rTup K) call_tuple_of (by rfl) T.tuple PyProof.Rows.boot_tuple (pa_cons (pv 5) pa_nil)) (pa_cons (pe_callTy (r := rTup K) call_tuple_of (by rfl) T.tuple PyProof.Rows.boot_tuple (pa_cons (pe_lc (own := [("_law_lot", 9)]) (g := gName 9) (tt := tYes) rfl scTurned.nd (pi_list (pv 4)) (blkOk_by (N := ["_law_machine_here", "_law_letters", "_law_rows", "_law_ends", "_law_lots", "_law_found", "_law_state", "_law_row", "_law_at", "_law_lot"]) (sc := defScope sTurned) (by decide +kernel)) (fun _ _ _ _ _ => pg_name (i := 9) scTurned.nd rfl (Or.inl rfl)) (fun _ _ _ _ _ => pts_nil) (fun _ _ _ _ _ => (pe_cmpR (r := rIn K false) op_in_seq pe_int (pv 9) (by rfl)))) pa_nil)) pa_nil))))))))), ?_⟩
    have L1 := M.L1
    have L3 := M.L3
    obtain ⟨m, pr, pe, rvs, rfl, nm, MM⟩ := dt_mach hx
    have hlv := MM.hl
    have n64 : 2 ^ rs.length ≤ 64 := Nat.le_trans (Nat.pow_le_pow_right (by omega) n6) (by decide)
    refine ⟨_, rfl, m, _, rfl, .inl MM.hm, rfl, _, _, rfl, _, _, rfl, _, _, rfl, rfl, ?_⟩
    have hz0 : ∀ j : Nat, (0 : Int) + (j : Int) = (j : Int) := fun j => Int.zero_add _
    have sm1 : (List.range rs.length).length < sizeLine := small1000 (by rw [List.length_range]; omega)
    refine ⟨_, rfl, pr, rvs, rfl, .inr (.inl MM.hr), _, rfl, by omega, by omega, fun D0 hD0 => ?_⟩
    refine lc_range (lo := 0) (n := ((rvs.length : Nat) : Int).toNat) (KInv (fun s : Nat => es.getD s false) natV (List.range rs.length) H D0) (kstart hD0) ?_ ?_
    · rintro j H1 hj p1
      rw [Int.toNat_natCast, hlv] at hj
      have hjr : (List.range rs.length)[j]? = some j := List.getElem?_range hj
      rw [hz0]
      refine ⟨rfl, _, rfl, _, rfl, pe, _, (j : Int), .bl (es.getD j false), rfl, rfl, .inl (MM.same p1.1).he, atI_nat (end_bl M hj), ?_⟩
      cases hb : es.getD j false with
      | true => exact ⟨_, rfl, _, rfl, kyes (t := fun s : Nat => es.getD s false) sm1 hD0 hjr hb p1 (Same.refl _)⟩
      | false => exact ⟨_, rfl, kno (t := fun s : Nat => es.getD s false) hjr hb p1 (Same.refl _)⟩
    · rintro H1 p1
      rw [Int.toNat_natCast, hlv] at p1
      obtain ⟨s1, hl1⟩ := kend (List.length_range.symm) p1
      have hl1 : H1 D0 = some (.lst ((endL rs es).map natV)) := hl1
      have D00 : H D0 = none := hD0
      clear p1 hD0
      refine ⟨by show 1 ≤ sizeLine; decide, fun ld hld => ?_⟩
      have t2 := same_new (o := .lst [.ref D0]) hld
      have hl2 : (upd H1 ld (.lst [.ref D0])) ld = some (.lst ([D0].map V.ref)) := upd_same
      have hD2 := t2 _ _ hl1
      have ld0 := s1.free hld
      have nD0 : D0 ≠ ld := fun z => by rw [← z, hl1] at hld; cases hld
      have s2 := s1.trans t2
      clear hld t2 hl1
      generalize upd H1 ld (.lst [.ref D0]) = H2 at *
      refine ⟨by show 0 ≤ sizeLine; decide, fun fd hfd => ?_⟩
      have t3 := same_new (o := .lst []) hfd
      have hf3 : (upd H2 fd (.lst [])) fd = some (.lst []) := upd_same
      have hl3 := t3 _ _ hl2
      have hD3 := t3 _ _ hD2
      have fd0 := s2.free hfd
      have nDf : D0 ≠ fd := fun z => by rw [← z, hD2] at hfd; cases hfd
      have nlf : ld ≠ fd := fun z => by rw [← z, hl2] at hfd; cases hfd
      have s3 := s2.trans t3
      clear hfd t3 hl2 hD2 s1 s2
      generalize upd H2 fd (.lst []) = H3 at *
      refine ⟨by show 2 ≤ sizeLine; decide, fun tt htt => ?_⟩
      have t4 := same_new (o := .tup [.ref ld, .ref fd]) htt
      have hf4 := t4 _ _ hf3
      have hl4 := t4 _ _ hl3
      have hD4 := t4 _ _ hD3
      have s4 := s3.trans t4
      refine ⟨tt, _, rfl, .inl (.inl upd_same), rfl, _, _, rfl, _, _, rfl, rfl, ?_⟩
      clear htt t4 hf3 hl3 hD3 s3
      generalize upd H3 tt (.tup [.ref ld, .ref fd]) = H4 at *
      have tbW : ∀ {H' : Hp}, Same H H' → (∃ o, H' ld = some o) → (∃ o, H' fd = some o) → TB (fun b => B b ∨ b = ld ∨ b = fd) H' := fun {H'} sm h1 h2 b z e => by
        rcases z with z | z | z
        · exact tb_same sm tb b z e
        · obtain ⟨o, h1⟩ := h1
          rw [z, h1] at e
          cases e
        · obtain ⟨o, h2⟩ := h2
          rw [z, h2] at e
          cases e
      refine while_by (fun σ H' => ∃ (lots : List (List Nat)) (found : Rws) (las : List Addr) (dvs : List V) (y6 y7 y8 y9 : Option V), σ = [some (.ref m), some (.int (L : Int)), some (.ref pr), some (.ref pe), some (.ref ld), some (.ref fd), y6, y7, y8, y9] ∧ Same H H' ∧ H' ld = some (.lst (las.map V.ref)) ∧ MemAt H' las lots ∧ H' fd = some (.lst dvs) ∧ DtAll (fun b => B b ∨ b = ld ∨ b = fd) K H' dvs (found.map rowDt) ∧ TV rs es L lots found [] ∧ ∀ a ∈ las, a ≠ ld ∧ a ≠ fd)
        (fun (_ : List (Option V)) (H' : Hp) => match H' fd with
          | some (.lst xs) => 65 - xs.length
          | _ => 0) ⟨[endL rs es], [], [D0], [], none, none, none, none, rfl, s4, hl4, ⟨rfl, fun b a e => ?_⟩, hf4, .nil, tv_start, fun a ha => by rw [List.mem_singleton.mp ha]; exact ⟨nD0, nDf⟩⟩ ?_ ?_
      · cases b with
        | zero =>
          cases e
          exact hD4
        | succ b => cases e
      · rintro σ H5 ⟨lots, found, las, dvs, y6, y7, y8, y9, rfl, s5, hl5, ma5, hf5, dv5, tv, nl5⟩
        have few := tv.few
        have lal := ma5.ln
        have ldv := dv5.len
        rw [List.length_map] at ldv
        refine ⟨_, rfl, fd, _, rfl, .inl (SqL.of hf5), _, rfl, ld, _, rfl, .inl (SqL.of hl5), _, _, rfl, rfl, _, rfl, ite2 (fun hlt => ?_) fun hlt => ?_⟩
        · have hlt := of_decide_eq_true hlt
          rw [List.length_map] at hlt
          have fl : found.length < lots.length := by omega
          obtain ⟨l, hlo⟩ : ∃ l, lots[found.length]? = some l := ⟨_, List.getElem?_eq_getElem fl⟩
          refine ⟨by show 0 ≤ sizeLine; decide, fun rw_ hrw => ?_⟩
          have t6 := same_new (o := .lst []) hrw
          have hr6 : (upd H5 rw_ (.lst [])) rw_ = some (.lst (([] : List (Option Nat)).map oV)) := upd_same
          have nrl : rw_ ≠ ld := fun z => by rw [z, hl5] at hrw; cases hrw
          have nrf : rw_ ≠ fd := fun z => by rw [z, hf5] at hrw; cases hrw
          have nra : ∀ a ∈ las, a ≠ rw_ := fun a ha z => by
            obtain ⟨b, hb⟩ := List.mem_iff_getElem?.mp ha
            rw [← z, ma5.at_ b a hb] at hrw
            cases hrw
          have dv6 := same_all t6 (DtAll.off hrw _ _ dv5)
          have rw0 := s5.free hrw
          have hl6 := t6 _ _ hl5
          have hf6 := t6 _ _ hf5
          have ma6 := ma5.keep (W := fun _ => False) (Keep.same t6) (fun _ _ z => z)
          have s6 := s5.trans t6
          have hf50 := hf5
          clear hrw t6 hl5 hf5 ma5 dv5
          generalize upd H5 rw_ (.lst []) = H6 at *
          refine ⟨_, rfl, (L : Int), rfl, by omega, by omega, ?_⟩
          refine for_range (lo := 0) (n := (L : Int).toNat) (fun c σ H' => (∃ y8 y9 : Option V, σ = [some (.ref m), some (.int (L : Int)), some (.ref pr), some (.ref pe), some (.ref ld), some (.ref fd), y6, some (.ref rw_), y8, y9]) ∧ Same H H' ∧ ∃ (lots' : List (List Nat)) (las' : List Addr) (r : List (Option Nat)), r.length = c ∧ H' ld = some (.lst (las'.map V.ref)) ∧ MemAt H' las' lots' ∧ H' fd = some (.lst dvs) ∧ H' rw_ = some (.lst (r.map oV)) ∧ DtAll (fun b => (B b ∨ b = ld ∨ b = fd) ∨ b = rw_) K H' dvs (found.map rowDt) ∧ TV rs es L lots' found r ∧ lots'[found.length]? = some l ∧ ∀ a ∈ las', (a ≠ ld ∧ a ≠ fd) ∧ a ≠ rw_)
            ⟨⟨_, _, rfl⟩, s6, lots, las, [], rfl, hl6, ma6, hf6, hr6, dv6, tv, hlo, fun a ha => ⟨nl5 a ha, nra a ha⟩⟩ ?_ ?_
          · rintro c σ H7 hc ⟨⟨y8, y9, rfl⟩, s7, lots', las', r, lr, hl7, ma7, hf7, hr7, dv7, tv7, hlo7, nl7⟩
            rw [Int.toNat_natCast] at hc
            rw [hz0]
            have few7 := tv7.few
            have lal7 := ma7.ln
            have MM7 := MM.same s7
            obtain ⟨la, hla⟩ : ∃ la, las'[found.length]? = some la := ⟨_, List.getElem?_eq_getElem (by have := (List.getElem?_eq_some_iff.mp hlo7).1; omega)⟩
            have hlam : H7 la = some (.lst (l.map natV)) := by
              have := ma7.at_ _ _ hla
              rw [List.getD_eq_getElem?_getD, hlo7] at this
              exact this
            refine ⟨_, rfl, pr, rvs, rfl, .inr (.inl MM7.hr), _, rfl, by omega, by omega, fun D hD => ?_⟩
            refine lc_range (lo := 0) (n := ((rvs.length : Nat) : Int).toNat) (KInv (fun s : Nat => inO l (nx rs s c)) natV (List.range rs.length) H7 D) (kstart hD) ?_ ?_
            · rintro j H8 hj p1
              rw [Int.toNat_natCast, hlv] at hj
              have hjr : (List.range rs.length)[j]? = some j := List.getElem?_range hj
              rw [hz0]
              obtain ⟨row, hrow, e3⟩ := row_oV M hj hc
              have MM8 := MM7.same p1.1
              obtain ⟨q, e1, e2⟩ := MM8.row j row hrow
              refine ⟨rfl, _, rfl, _, rfl, pr, rvs, (j : Int), _, rfl, rfl, .inl MM8.hr, atI_nat e1, _, rfl, q, _, (c : Int), oV (nx rs j c), rfl, rfl, .inl e2, atI_nat e3, _, rfl, _, rfl, fd, _, rfl, .inl (SqL.of (p1.1 _ _ hf7)), ld, _, _, .ref la, rfl, rfl, SqL.of (p1.1 _ _ hl7), atI_nat (by rw [List.getElem?_map, ldv, hla]; rfl), la, _, rfl, .inl (SqL.of (p1.1 _ _ hlam)), flat_oV _, flat_nat, _, rfl, ?_⟩
              show (if inV (oV (nx rs j c)) (l.map natV) = true then _ else _)
              rw [inV_oV]
              cases hb : inO l (nx rs j c) with
              | true => exact ⟨_, rfl, kyes (t := fun s : Nat => inO l (nx rs s c)) sm1 hD hjr hb p1 (Same.refl _)⟩
              | false => exact kno (t := fun s : Nat => inO l (nx rs s c)) hjr hb p1 (Same.refl _)
            · rintro H8 p1
              rw [Int.toNat_natCast, hlv] at p1
              obtain ⟨s8, hD8⟩ := kend (List.length_range.symm) p1
              have hD8 : H8 D = some (.lst ((preL rs l c).map natV)) := hD8
              have D7 : H7 D = none := hD
              have nDl : D ≠ ld := fun z => by rw [z, hl7] at D7; cases D7
              have nDf' : D ≠ fd := fun z => by rw [z, hf7] at D7; cases D7
              have nDr : D ≠ rw_ := fun z => by rw [z, hr7] at D7; cases D7
              have hl8 := s8 _ _ hl7
              have hf8 := s8 _ _ hf7
              have hr8 := s8 _ _ hr7
              have ma8 := ma7.keep (W := fun _ => False) (Keep.same s8) (fun _ _ z => z)
              have dv8 := same_all s8 dv7
              have s78 := s7.trans s8
              clear p1 hD ma7 dv7 hl7 hf7 hr7
              have fin : ∀ (lots2 : List (List Nat)) (las2 : List Addr) (G : Hp) (k : Nat), Same H G → G ld = some (.lst (las2.map V.ref)) → MemAt G las2 lots2 → G fd = some (.lst dvs) → G rw_ = some (.lst (r.map oV)) → DtAll (fun b => (B b ∨ b = ld ∨ b = fd) ∨ b = rw_) K G dvs (found.map rowDt) → TV rs es L lots2 found (r ++ [some k]) → lots2[found.length]? = some l → (∀ a ∈ las2, (a ≠ ld ∧ a ≠ fd) ∧ a ≠ rw_) →
                  (r.map oV).length < sizeLine ∧ Same H (upd G rw_ (.lst (r.map oV ++ [V.int ((k : Nat) : Int)]))) ∧ ∃ (lots' : List (List Nat)) (las' : List Addr) (r' : List (Option Nat)), r'.length = c + 1 ∧ (upd G rw_ (.lst (r.map oV ++ [V.int ((k : Nat) : Int)]))) ld = some (.lst (las'.map V.ref)) ∧ MemAt (upd G rw_ (.lst (r.map oV ++ [V.int ((k : Nat) : Int)]))) las' lots' ∧ (upd G rw_ (.lst (r.map oV ++ [V.int ((k : Nat) : Int)]))) fd = some (.lst dvs) ∧ (upd G rw_ (.lst (r.map oV ++ [V.int ((k : Nat) : Int)]))) rw_ = some (.lst (r'.map oV)) ∧ DtAll (fun b => (B b ∨ b = ld ∨ b = fd) ∨ b = rw_) K (upd G rw_ (.lst (r.map oV ++ [V.int ((k : Nat) : Int)]))) dvs (found.map rowDt) ∧ TV rs es L lots' found r' ∧ lots'[found.length]? = some l ∧ ∀ a ∈ las', (a ≠ ld ∧ a ≠ fd) ∧ a ≠ rw_ := fun lots2 las2 G k a1 a2 a3 a4 a5 a6 a7 a8 a9 => by
                refine ⟨small1000 (by rw [List.length_map]; omega), fun b o e => ?_, lots2, las2, r ++ [some k], by rw [List.length_append, lr]; rfl, by rw [upd_ne nrl.symm]; exact a2, a3.keep (W := fun b => b = rw_) (keep_store rfl) (fun a ha z => (a9 a ha).2 z), by rw [upd_ne nrf.symm]; exact a4, by rw [upd_same, List.map_append]; rfl, DtAll.keep (keep_store (.inr rfl)) _ _ a6, a7, a8, a9⟩
                rw [upd_ne (ne_of_none e rw0)]
                exact a1 _ _ e
              have idx : ∀ {lots2 : List (List Nat)} {k : Nat}, lots2.Nodup → lots2[k]? = some (preL rs l c) → ∀ (m : Nat) (z' : PyData), m < k → (lots2.map lotD)[m]? = some z' → PyData.eqv z' (lotD (preL rs l c)) = false := fun {lots2 k} nd hk m z' hm e => by
                rw [List.getElem?_map] at e
                obtain ⟨x, hx, rfl⟩ := Option.map_eq_some_iff.mp e
                rw [lotD_eqv]
                refine decide_eq_false fun z => ?_
                rw [z] at hx
                have l1 := (List.getElem?_eq_some_iff.mp hx).1
                have := (List.getElem?_inj l1 nd).mp (hx.trans hk.symm)
                omega
              have lp : preL rs l r.length = preL rs l c := by rw [lr]
              refine ⟨_, rfl, _, rfl, lotD (preL rs l c), lots'.map lotD, lot_dp hD8, lots_dp hl8 ma8, lotD_shaped _, lots_shaped _, _, rfl, ?_⟩
              rw [lots_any]
              by_cases hin : preL rs l c ∈ lots'
              · rw [decide_eq_true hin]
                have tv8 := tv7.old hlo7 (by rw [lp]; exact hin)
                rw [lp] at tv8
                have hk : lots'[lots'.idxOf (preL rs l c)]? = some (preL rs l c) := by
                  have := List.idxOf_lt_length_of_mem hin
                  rw [List.getElem?_eq_getElem this, List.getElem_idxOf]
                obtain ⟨c1, c2⟩ := fin lots' las' H8 _ s78 hl8 ma8 hf8 hr8 dv8 tv8 hlo7 nl7
                exact ⟨_, rfl, .inl ⟨rfl, _, SqL.of hr8⟩, _, rfl, .inl ⟨rfl, _, SqL.of hl8⟩, _, rfl, ld, .ref D, lotD (preL rs l c), lots'.map lotD, lots'.idxOf (preL rs l c), lotD (preL rs l c), rfl, rfl, lots_dp hl8 ma8, lot_dp hD8, lots_shaped _, lotD_shaped _, by rw [List.getElem?_map, hk]; rfl, by rw [lotD_eqv]; exact decide_eq_true rfl, idx tv7.nd hk, rw_, _, _, rfl, rfl, hr8, c1, ⟨_, _, rfl⟩, c2⟩
              · rw [decide_eq_false hin]
                have tv8 := tv7.new hlo7 (by rw [lp]; exact hin)
                rw [lp] at tv8
                refine ⟨_, rfl, .inl ⟨rfl, _, SqL.of hl8⟩, _, rfl, ld, _, _, rfl, rfl, hl8, small1000 (by rw [List.length_map]; omega), ?_⟩
                have ep : las'.map V.ref ++ [V.ref D] = (las' ++ [D]).map V.ref := by
                  rw [List.map_append]
                  rfl
                rw [ep]
                have hl9 : (upd H8 ld (.lst ((las' ++ [D]).map V.ref))) ld = some (.lst ((las' ++ [D]).map V.ref)) := upd_same
                have nl9 : ∀ a ∈ las' ++ [D], (a ≠ ld ∧ a ≠ fd) ∧ a ≠ rw_ := fun a ha => by
                  rcases List.mem_append.mp ha with ha | ha
                  · exact nl7 a ha
                  · rw [List.mem_singleton.mp ha]
                    exact ⟨⟨nDl, nDf'⟩, nDr⟩
                have ma9 : MemAt (upd H8 ld (.lst ((las' ++ [D]).map V.ref))) (las' ++ [D]) (lots' ++ [preL rs l c]) := (ma8.push hD8).keep (W := fun b => b = ld) (keep_store rfl) (fun a ha z => (nl9 a ha).1.1 z)
                have hD9 : (upd H8 ld (.lst ((las' ++ [D]).map V.ref))) D = some (.lst ((preL rs l c).map natV)) := by
                  rw [upd_ne nDl]
                  exact hD8
                have hf9 : (upd H8 ld (.lst ((las' ++ [D]).map V.ref))) fd = some (.lst dvs) := by
                  rw [upd_ne nlf.symm]
                  exact hf8
                have hr9 : (upd H8 ld (.lst ((las' ++ [D]).map V.ref))) rw_ = some (.lst (r.map oV)) := by
                  rw [upd_ne nrl]
                  exact hr8
                have dv9 := DtAll.keep (keep_store (p := ld) (o := .lst ((las' ++ [D]).map V.ref)) (.inl (.inr (.inl rfl)))) _ _ dv8
                have s9 : Same H (upd H8 ld (.lst ((las' ++ [D]).map V.ref))) := fun b o e => by
                  rw [upd_ne (ne_of_none e ld0)]
                  exact s78 _ _ e
                generalize upd H8 ld (.lst ((las' ++ [D]).map V.ref)) = H9 at *
                have hk : (lots' ++ [preL rs l c])[lots'.length]? = some (preL rs l c) := by
                  rw [List.getElem?_append_right (Nat.le_refl _), Nat.sub_self]
                  rfl
                have hlo9 : (lots' ++ [preL rs l c])[found.length]? = some l := by
                  rw [List.getElem?_append_left (List.getElem?_eq_some_iff.mp hlo7).1]
                  exact hlo7
                obtain ⟨c1, c2⟩ := fin _ _ H9 _ s9 hl9 ma9 hf9 hr9 dv9 tv8 hlo9 nl9
                exact ⟨_, rfl, .inl ⟨rfl, _, SqL.of hr9⟩, _, rfl, .inl ⟨rfl, _, SqL.of hl9⟩, _, rfl, ld, .ref D, lotD (preL rs l c), (lots' ++ [preL rs l c]).map lotD, lots'.length, lotD (preL rs l c), rfl, rfl, lots_dp hl9 ma9, lot_dp hD9, lots_shaped _, lotD_shaped _, by rw [List.getElem?_map, hk]; rfl, by rw [lotD_eqv]; exact decide_eq_true rfl, idx tv8.nd hk, rw_, _, _, rfl, rfl, hr9, c1, ⟨_, _, rfl⟩, c2⟩
          · rintro σ H7 ⟨⟨y8, y9, rfl⟩, s7, lots', las', r, lr, hl7, ma7, hf7, hr7, dv7, tv7, hlo7, nl7⟩
            rw [Int.toNat_natCast] at lr
            have few7 := tv7.few
            refine ⟨_, rfl, .inl ⟨rfl, _, SqL.of hf7⟩, _, rfl, rw_, _, rfl, .inl ⟨SqL.of hr7, fun t nt => ?_⟩⟩
            have st := same_new (o := .tup (r.map oV)) nt
            have hf8 := st _ _ hf7
            refine ⟨fd, _, _, rfl, rfl, hf8, small1000 (by omega), ?_⟩
            have tbw := tbW s7 ⟨_, hl7⟩ ⟨_, hf7⟩
            have hdv3 : DtAll (fun b => B b ∨ b = ld ∨ b = fd) K (upd H7 t (.tup (r.map oV))) (dvs ++ [.ref t]) ((found ++ [r]).map rowDt) := by
              rw [List.map_append]
              exact (same_all st (DtAll.weak (fun b z => .inl z) _ _ dv7)).append (.cons (.tup (tb_off tbw nt) (.inl upd_same) (dt_cs o_cs r)) .nil)
            have fl7 := (List.getElem?_eq_some_iff.mp hlo7).1
            refine ⟨⟨lots', found ++ [r], las', dvs ++ [.ref t], _, _, _, _, rfl, fun z o e => ?_, ?_, ?_, upd_same, DtAll.keep (keep_store (.inr (.inr rfl))) _ _ hdv3, tv7.whole lr fl7, fun a ha => (nl7 a ha).1⟩, ?_⟩
            · rw [upd_ne (ne_of_none e fd0)]
              exact st _ _ (s7 _ _ e)
            · rw [upd_ne nlf]
              exact st _ _ hl7
            · exact (ma7.keep (W := fun _ => False) (Keep.same st) (fun _ _ z => z)).keep (W := fun b => b = fd) (keep_store rfl) (fun a ha z => (nl7 a ha).1.2 z)
            · rw [upd_same, hf50]
              show 65 - (dvs ++ [V.ref t]).length < 65 - dvs.length
              rw [List.length_append, List.length_singleton]
              omega
        · have hge : ¬ ((dvs.length : Int) < ((las.map V.ref).length : Int)) := fun z => hlt (decide_eq_true z)
          rw [List.length_map] at hge
          have hle := tv.le
          have heq : found.length = lots.length := by omega
          have mok := tv.mok M heq (by omega)
          refine ⟨_, rfl, _, rfl, fd, _, rfl, .inl ⟨SqL.of hf5, fun t1 nt1 => ?_⟩⟩
          have st1 := same_new (o := .tup dvs) nt1
          have hr1 : Rd (upd H5 t1 (.tup dvs)) t1 (.tup dvs) := .inl upd_same
          have dv6 := same_all st1 dv5
          have hl6 := st1 _ _ hl5
          have ma6 := ma5.keep (W := fun _ => False) (Keep.same st1) (fun _ _ z => z)
          have s6 := s5.trans st1
          clear nt1 st1 dv5
          generalize upd H5 t1 (.tup dvs) = H6 at *
          refine ⟨_, rfl, ld, rfl, ⟨_, SqL.of hl6⟩, fun D hD => ?_⟩
          refine lc_list (K := K) (a := ld) (xs := las.map V.ref) (NInv (fun l : List Nat => V.bl (decide (0 ∈ l))) lots H6 D) (nstart hD) (fun i H' _ q => SqL.of (q.1 _ _ hl6)) ?_ ?_
          · rintro i x H7 hx p1
            rw [List.getElem?_map] at hx
            obtain ⟨la, hla, rfl⟩ := Option.map_eq_some_iff.mp hx
            obtain ⟨l, hlo⟩ : ∃ l, lots[i]? = some l := ⟨_, List.getElem?_eq_getElem (by have := (List.getElem?_eq_some_iff.mp hla).1; omega)⟩
            have hlam : H6 la = some (.lst (l.map natV)) := by
              have := ma6.at_ _ _ hla
              rw [List.getD_eq_getElem?_getD, hlo] at this
              exact this
            refine ⟨rfl, _, rfl, la, _, rfl, .inl (SqL.of (p1.1 _ _ hlam)), rfl, flat_nat, ?_⟩
            have e0 : (if (false : Bool) = true then !inV (.int 0) (l.map natV) else inV (.int 0) (l.map natV)) = decide (0 ∈ l) := by
              rw [if_neg Bool.false_ne_true]
              exact notIn_nat (v := 0)
            rw [e0]
            exact nturn (f := fun l : List Nat => V.bl (decide (0 ∈ l))) (small1000 (by omega)) hD hlo p1 (Same.refl _)
          · rintro H7 p1
            obtain ⟨s7, hD7⟩ := nend (by rw [List.length_map]; exact lal) p1
            refine ⟨D, _, rfl, .inl ⟨SqL.of hD7, fun t2 nt2 => ?_⟩⟩
            have st2 := same_new (o := .tup (lots.map fun l : List Nat => V.bl (decide (0 ∈ l)))) nt2
            have he : Rd (upd H7 t2 (.tup (lots.map fun l : List Nat => V.bl (decide (0 ∈ l))))) t2 (.tup ((zeroL lots).map V.bl)) := .inl (by
              rw [upd_same]
              unfold zeroL
              rw [List.map_map]
              rfl)
            have s8 := s7.trans st2
            have dv8 := same_all s8 dv6
            have hr8 := same_rd s8 hr1
            have s08 := s6.trans s8
            clear nt2 st2
            generalize upd H7 t2 (.tup (lots.map fun l : List Nat => V.bl (decide (0 ∈ l)))) = H8 at *
            refine ⟨L, found, zeroL lots, 0, t1, t2, dvs, B, rfl, mok, ⟨hr8, ldv, fun u row hu => ?_, he⟩, tb_same s08 tb, by omega, fun H9 v out oe s9 d sml => k H9 v found out (zeroL lots) oe (s08.trans s9) d mok (tv.rv M heq) sml⟩
            obtain ⟨v, hv, hd⟩ := dv8.get (i := u) (d := rowDt row) (by rw [List.getElem?_map, hu]; rfl)
            obtain ⟨q, ys, rfl, _, hq, hay, _⟩ := hd.tup_rd
            rw [dt_sc o_sc hay] at hq
            exact ⟨q, hv, hq⟩
      · rintro σ H1 Q1 Q2 hQ ⟨x, e1, p0, ys0, e2, e3, y, e4, p, ys, e5, e6, i, j, e7, e8, b, e9, q⟩
        exact ⟨x, e1, p0, ys0, e2, e3, y, e4, p, ys, e5, e6, i, j, e7, e8, b, e9, hQ _ _ q⟩
end
/-! ### all words of a length, and a machine whose letter is far -/
theorem wS_snoc (w : List Nat) (c : Nat) : wS w ++ ⟨#[97 + c]⟩ = wS (w ++ [c]) := by
  show mkS (w.map (97 + ·)) ++ mkS [97 + c] = _
  rw [mkS_add]
  show _ = mkS ((w ++ [c]).map (97 + ·))
  rw [List.map_append]
  rfl
theorem wS_length (w : List Nat) : (wS w).length = w.length := by
  show (mkS (w.map (97 + ·))).length = _
  rw [mkS_len, List.length_map]
theorem wl_snoc {L c : Nat} {w : List Nat} (h : Wl L w) (hc : c < L) : Wl L (w ++ [c]) := fun x hx => by
  rcases List.mem_append.mp hx with hx | hx
  · exact h x hx
  · rw [List.mem_singleton.mp hx]
    exact hc
def rsFar (p : Nat) : Rows := (List.range p).map (fun i => [some (i + 1), some (i + 1)]) ++ [[none, some (p + 1)], [some (p + 1), some (p + 1)]]
def esFar (p : Nat) : List Bool := List.replicate (p + 1) false ++ [true]
theorem far_len (p : Nat) : (rsFar p).length = p + 2 := by
  unfold rsFar
  rw [List.length_append, List.length_map, List.length_range]
  rfl
theorem mok_far {p : Nat} (hp : p ≤ 20) : MOk 2 (rsFar p) (esFar p) where
  l1 := by rw [far_len]; omega
  l400 := by rw [far_len]; omega
  row := fun row h => by
    unfold rsFar at h
    rcases List.mem_append.mp h with h | h
    · obtain ⟨i, _, rfl⟩ := List.mem_map.mp h
      rfl
    · rcases List.mem_cons.mp h with h | h
      · rw [h]
        rfl
      · rw [List.mem_singleton.mp h]
        rfl
  tgt := fun row h v hv => by
    rw [far_len]
    unfold rsFar at h
    rcases List.mem_append.mp h with h | h
    · obtain ⟨i, hi, rfl⟩ := List.mem_map.mp h
      rw [List.mem_range] at hi
      rcases List.mem_cons.mp hv with e | hv
      · cases e
        omega
      · have e := List.mem_singleton.mp hv
        cases e
        omega
    · rcases List.mem_cons.mp h with h | h
      · rw [h] at hv
        rcases List.mem_cons.mp hv with e | hv
        · cases e
        · have e := List.mem_singleton.mp hv
          cases e
          omega
      · rw [List.mem_singleton.mp h] at hv
        rcases List.mem_cons.mp hv with e | hv
        · cases e
          omega
        · have e := List.mem_singleton.mp hv
          cases e
          omega
  es := by
    rw [far_len]
    unfold esFar
    rw [List.length_append, List.length_replicate, List.length_singleton]
  L1 := by decide
  L3 := by decide
def frow (i : Nat) : PyData := rowDt [some (i + 1), some (i + 1)]
def FInv2 (K : PySem.W.Frag) (H : Hp) (D : Addr) (j : Nat) (H' : Hp) : Prop := Same H H' ∧ ∃ acc, H' D = some (.lst acc) ∧ acc.length = j ∧ ∀ B : Addr → Prop, TB B H → DtAll (fun b => B b ∨ b = D) K H' acc ((List.range j).map frow)

section
variable {P : Program} {w : World} {K : PySem.W.Frag} {mg : Str → Option Value} {base : Heap}
theorem scWords : FnScope ["_law_letters", "_law_length", "_law_found", "_law_turn", "_law_longer", "_law_word", "_law_letter"] ["_law_letters", "_law_length"] (defScope sWords) := ⟨rfl, rfl, rfl, by decide +kernel, rfl, by decide +kernel, by decide +kernel⟩
def spWords : Sp := fun vs H Q _ => ∃ (L n : Nat), vs = [.int (L : Int), .int (n : Int)] ∧ 1 ≤ L ∧ L ≤ 3 ∧ n ≤ 4 ∧
  ∀ (H' : Hp) (p : Addr) (ws : List (List Nat)), Same H H' → H p = none → H' p = some (.lst (ws.map fun w => V.str (wS w))) → (∀ w ∈ ws, Wl L w ∧ w.length = n) → Q (.ref p) H'
theorem ok_words {f : Addr} {fd : FuncData} (F : Fun K "_law_words" "_law_words" sWords f fd) (T : Mg mg) : FnOk P w K mg base CX0 1 f fd ["_law_letters", "_law_length"] spWords := by
  refine F.ok scWords (fun vs H Q E h => ?_) (fun cdv A outer s H vs Q E hr h => ?_)
  · obtain ⟨L, n, rfl, _⟩ := h
    rfl
  · obtain ⟨L, n, rfl, L1, L3, n4, k⟩ := h
    refine ⟨_, (pss_cons (ps_set (i := 2) scWords.nd rfl (.inl rfl) (pe_lst (pa_cons pe_str pa_nil)))
      (pss_cons (ps_for PassesOwn.never rfl (pi_range1 (by rfl) T.range (pa_cons (pv 1) pa_nil)) (pg_name (i := 3) scWords.nd rfl (.inl rfl)) (pss_cons (ps_set (i := 4) scWords.nd rfl (.inl rfl) (pe_lst pa_nil))
      (pss_cons (ps_for PassesOwn.never rfl (pi_list (pv 2)) (pg_name (i := 5) scWords.nd rfl (.inr rfl)) (pss_one (ps_expr (pe_bm PySem.F.plainAttrs_list PySem.F.slot_list_extend PySem.F.type_list_extend mt_extend (pv 4) (pa_cons (pe_lc (own := [("_law_letter", 6)]) (g := gName 6) (tt := tYes) rfl scWords.nd (pi_str (pe_slice sl_str pe_str po_none (po_some (pv 0)))) (blkOk_by (N := ["_law_letters", "_law_length", "_law_found", "_law_turn", "_law_longer", "_law_word", "_law_letter"]) (sc := defScope sWords) (by decide +kernel)) (fun _ _ _ _ _ => pg_name (i := 6) scWords.nd rfl (Or.inl rfl)) (fun _ _ _ _ _ => pts_nil) (fun _ _ _ _ _ => (pe_op op_add_str (pv 5) (pv 6)))) pa_nil)))))
      (pss_one (ps_set (i := 2) scWords.nd rfl (.inl rfl) (pv 4))))))
      (pss_one (ps_ret (pv 2))))), ?_⟩
    refine ⟨by show 1 ≤ sizeLine; decide, fun p0 hp0 => ?_⟩
    have t1 := same_new (o := .lst [.str ""]) hp0
    have h1 : (upd H p0 (.lst [.str ""])) p0 = some (.lst (([[]] : List (List Nat)).map fun w => V.str (wS w))) := by
      rw [upd_same]
      have e : V.str "" = V.str (wS []) := by decide +kernel
      rw [e]
      rfl
    have p00 : H p0 = none := hp0
    clear hp0
    generalize upd H p0 (.lst [.str ""]) = H1 at *
    refine ⟨_, rfl, (n : Int), rfl, by omega, by omega, ?_⟩
    refine for_range (lo := 0) (n := (n : Int).toNat) (fun i σ H' => ∃ (p : Addr) (ws : List (List Nat)) (y3 y4 y5 y6 : Option V), σ = [some (.int (L : Int)), some (.int (n : Int)), some (.ref p), y3, y4, y5, y6] ∧ Same H H' ∧ H p = none ∧ H' p = some (.lst (ws.map fun w => V.str (wS w))) ∧ (∀ w ∈ ws, Wl L w ∧ w.length = i) ∧ ws.length ≤ 3 ^ i)
      ⟨p0, [[]], _, _, _, _, rfl, t1, p00, h1, fun w hw => by rw [List.mem_singleton.mp hw]; exact ⟨fun c hc => absurd hc List.not_mem_nil, rfl⟩, Nat.le_refl _⟩ ?_ ?_
    · rintro i σ H2 hi ⟨p, ws, y3, y4, y5, y6, rfl, s2, pn, hp, hw, wl⟩
      rw [Int.toNat_natCast] at hi
      have w81 : ws.length ≤ 27 := Nat.le_trans wl (Nat.pow_le_pow_right (by omega) (show i ≤ 3 by omega))
      refine ⟨by show 0 ≤ sizeLine; decide, fun q hq => ?_⟩
      have t3 := same_new (o := .lst []) hq
      have hq3 : (upd H2 q (.lst [])) q = some (.lst (([] : List (List Nat)).map fun w => V.str (wS w))) := upd_same
      have hp3 := t3 _ _ hp
      have qn := s2.free hq
      have npq : p ≠ q := fun z => by rw [← z, hp] at hq; cases hq
      have s3 := s2.trans t3
      clear hq t3 hp s2
      generalize upd H2 q (.lst []) = H3 at *
      refine ⟨_, rfl, p, rfl, ⟨_, SqL.of hp3⟩, ?_⟩
      refine for_list (K := K) (a := p) (xs := ws.map fun w => V.str (wS w)) (fun j σ H' => ∃ (ws2 : List (List Nat)) (y5 y6 : Option V), σ = [some (.int (L : Int)), some (.int (n : Int)), some (.ref p), some (.int (0 + (i : Int))), some (.ref q), y5, y6] ∧ Same H H' ∧ H' p = some (.lst (ws.map fun w => V.str (wS w))) ∧ H' q = some (.lst (ws2.map fun w => V.str (wS w))) ∧ (∀ w ∈ ws2, Wl L w ∧ w.length = i + 1) ∧ ws2.length ≤ 3 * j)
        ⟨[], _, _, rfl, s3, hp3, hq3, fun w h => absurd h List.not_mem_nil, Nat.zero_le _⟩ (fun j σ H' _ z => by
          obtain ⟨_, _, _, _, _, h, _⟩ := z
          exact SqL.of h) ?_ ?_
      · rintro j x σ H4 hx ⟨ws2, y5, y6, rfl, s4, hp4, hq4, hw2, wl2⟩
        rw [List.getElem?_map] at hx
        obtain ⟨u, hu, rfl⟩ := Option.map_eq_some_iff.mp hx
        have jl := (List.getElem?_eq_some_iff.mp hu).1
        obtain ⟨uL, ul⟩ := hw u (List.mem_of_getElem? hu)
        refine ⟨_, rfl, .inl ⟨rfl, _, SqL.of hq4⟩, ?_⟩
        refine ⟨_, rfl, (L : Int), rfl, "abc", rfl, by decide, wS (List.range L), congrArg V.str (abc_cut L1 L3), fun D hD => ?_⟩
        refine lc_it walk_str (NInv (fun c : Nat => V.str (wS (u ++ [c]))) (List.range L) H4 D) (nstart hD) (fun _ _ _ _ => True.intro) ?_ ?_
        · rintro c x H5 H6 hc p1 ⟨rfl, x, hxc, rfl⟩
          obtain ⟨c', hc', rfl⟩ := wS_at hxc
          refine ⟨rfl, _, rfl, _, rfl, wS u, ⟨#[97 + c']⟩, rfl, rfl, ?_, ?_⟩
          · rw [wS_length]
            exact Nat.le_of_lt (small1000 (n := u.length + 1) (by omega))
          · rw [wS_snoc]
            exact nturn (f := fun c : Nat => V.str (wS (u ++ [c]))) (small1000 (by rw [List.length_range]; omega)) hD hc' p1 (Same.refl _)
        · rintro H5 p1
          obtain ⟨s5, hD5⟩ := nend (wS_len _) p1
          have hq5 := s5 _ _ hq4
          have hp5 := s5 _ _ hp4
          have em : ws2.map (fun w => V.str (wS w)) ++ (List.range L).map (fun c : Nat => V.str (wS (u ++ [c]))) = (ws2 ++ (List.range L).map fun c => u ++ [c]).map fun w => V.str (wS w) := by
            rw [List.map_append, List.map_map]
            rfl
          refine ⟨q, D, _, _, rfl, rfl, hq5, hD5, sz_of (by rw [List.length_map, List.length_map, List.length_range]; omega), ws2 ++ (List.range L).map (fun c => u ++ [c]), _, _, rfl, fun b o e => ?_, ?_, by rw [upd_same, em], fun w hw' => ?_, by rw [List.length_append, List.length_map, List.length_range]; omega⟩
          · rw [upd_ne (ne_of_none e qn)]
            exact s5 _ _ (s4 _ _ e)
          · rw [upd_ne npq]
            exact hp5
          · rcases List.mem_append.mp hw' with h | h
            · exact hw2 w h
            · obtain ⟨c, hc, rfl⟩ := List.mem_map.mp h
              exact ⟨wl_snoc uL (List.mem_range.mp hc), by rw [List.length_append, ul]; rfl⟩
      · rintro σ H4 ⟨ws2, y5, y6, rfl, s4, hp4, hq4, hw2, wl2⟩
        rw [List.length_map] at wl2
        exact ⟨_, rfl, q, ws2, _, _, _, _, rfl, s4, qn, hq4, hw2, by rw [Nat.pow_succ]; omega⟩
    · rintro σ H2 ⟨p, ws, y3, y4, y5, y6, rfl, s2, pn, hp, hw, wl⟩
      rw [Int.toNat_natCast] at hw
      exact ⟨_, rfl, k H2 p ws s2 pn hp hw⟩
end
section
variable {P : Program} {w : World} {K : PySem.W.Frag} {mg : Str → Option Value} {base : Heap}
theorem scFar : FnScope ["_law_place", "_law_rows", "_law_at"] ["_law_place"] (defScope sFar) := ⟨rfl, rfl, rfl, by decide +kernel, rfl, by decide +kernel, by decide +kernel⟩
def spFar (K : PySem.W.Frag) : Sp := fun vs H Q _ => ∃ (p : Nat), vs = [.int (p : Int)] ∧ p ≤ 20 ∧
  ∀ H' v, Same H H' → (∀ B, TB B H → Dt B K H' v (machDt 2 (rsFar p) (esFar p))) → Q v H'
theorem ok_far {f : Addr} {fd : FuncData} (F : Fun K "_law_far" "_law_far" sFar f fd) (T : Mg mg) : FnOk P w K mg base CX0 1 f fd ["_law_place"] (spFar K) := by
  refine F.ok scFar (fun vs H Q E h => ?_) (fun cdv A outer s H vs Q E hr h => ?_)
  · obtain ⟨p, rfl, _⟩ := h
    rfl
  · obtain ⟨n, rfl, n20, k⟩ := h
    refine ⟨_, (pss_cons (ps_set (i := 1) scFar.nd rfl (.inl rfl) (pe_op op_cat (pe_lc (own := [("_law_at", 2)]) (g := gName 2) (tt := tYes) rfl scFar.nd (pi_range1 (by rfl) T.range (pa_cons (pv 0) pa_nil)) (blkOk_by (N := ["_law_place", "_law_rows", "_law_at"]) (sc := defScope sFar) (by decide +kernel)) (fun _ _ _ _ _ => pg_name (i := 2) scFar.nd rfl (Or.inl rfl)) (fun _ _ _ _ _ => pts_nil) (fun _ _ _ _ _ => (pe_tup (pa_cons (pe_op op_add (pv 2) pe_int) (pa_cons (pe_op op_add (pv 2) pe_int) pa_nil))))) (pe_lst (pa_cons (pe_tup (pa_cons pe_non (pa_cons (pe_op op_add (pv 0) pe_int) pa_nil))) (pa_cons (pe_tup (pa_cons (pe_op op_add (pv 0) pe_int) (pa_cons (pe_op op_add (pv 0) pe_int) pa_nil))) pa_nil)))))
      (pss_one (ps_ret (pe_tup (pa_cons pe_int (pa_cons (pe_callTy (r := rTup K) call_tuple_of (by rfl) T.tuple PyProof.Rows.boot_tuple (pa_cons (pv 1) pa_nil)) (pa_cons (pe_op op_catS (pe_op op_repS (pe_tup (pa_cons pe_bl pa_nil)) (pe_op op_add (pv 0) pe_int)) (pe_tup (pa_cons pe_bl pa_nil))) pa_nil))))))), ?_⟩
    refine ⟨_, rfl, ((n : Int)), rfl, by omega, by omega, fun D nD => ?_⟩
    refine lc_range (lo := 0) (n := (n : Int).toNat) (FInv2 K H D) ⟨same_new nD, [], upd_same, rfl, fun B tb => .nil⟩ ?_ ?_
    · rintro j H1 hj ⟨sm, acc, hD1, hl, hB⟩
      rw [Int.toNat_natCast] at hj
      refine ⟨rfl, _, rfl, _, _, rfl, rfl, _, rfl, _, _, rfl, rfl, by show 2 ≤ sizeLine; decide, fun t nt => ?_⟩
      have st := same_new (o := .tup [.int (0 + (j : Int) + 1), .int (0 + (j : Int) + 1)]) nt
      refine ⟨acc, st _ _ hD1, small1000 (by omega), fun b u e => ?_, acc ++ [.ref t], upd_same, by rw [List.length_append, hl]; rfl, fun B tb => ?_⟩
      · rw [upd_ne (ne_of_none e nD)]
        exact st _ _ (sm _ _ e)
      · refine dt_lst nD (st _ _ hD1) _ ?_
        rw [List.range_succ, List.map_append]
        have tb2 : TB (fun b => B b ∨ b = D) H1 := fun b z e => by
          rcases z with z | z
          · exact tb_same sm tb b z e
          · rw [z, hD1] at e
            cases e
        refine (same_all st (hB B tb)).append (.cons (.tup (tb_off tb2 nt) (.inl upd_same) ?_) .nil)
        · show DtAll _ K _ [V.int (0 + (j : Int) + 1), V.int (0 + (j : Int) + 1)] [PyData.int ((j + 1 : Nat) : Int), PyData.int ((j + 1 : Nat) : Int)]
          rw [show (0 + (j : Int) + 1) = ((j + 1 : Nat) : Int) by omega]
          exact .cons (.int _) (.cons (.int _) .nil)
    · rintro H1 ⟨sm, acc, hD1, hl, hB⟩
      rw [Int.toNat_natCast] at hl
      refine ⟨_, rfl, _, _, rfl, rfl, by show 2 ≤ sizeLine; decide, fun t nt => ?_⟩
      have st := same_new (o := .tup [.non, .int ((n : Int) + 1)]) nt
      refine ⟨_, rfl, _, _, rfl, rfl, _, rfl, _, _, rfl, rfl, by show 2 ≤ sizeLine; decide, fun t' nt' => ?_⟩
      have st' := same_new (o := .tup [.int ((n : Int) + 1), .int ((n : Int) + 1)]) nt'
      refine ⟨by show 2 ≤ sizeLine; decide, fun l nl => ?_⟩
      have sl := same_new (o := .lst [.ref t, .ref t']) nl
      have hlen : acc.length + 2 ≤ sizeLine := sz_of (by rw [hl]; omega)
      refine ⟨D, l, acc, [.ref t, .ref t'], rfl, rfl, sl _ _ (st' _ _ (st _ _ hD1)), upd_same, hlen, fun p np => ?_⟩
      have sp := same_new (o := .lst (acc ++ [.ref t, .ref t'])) np
      refine ⟨_, rfl, p, _, rfl, .inl ⟨SqL.of upd_same, fun tr ntr => ?_⟩⟩
      have str := same_new (o := .tup (acc ++ [.ref t, .ref t'])) ntr
      have s2r := (sl.trans sp).trans str
      have s1r := st'.trans s2r
      have s15 := st.trans s1r
      have s5 := sm.trans s15
      have h5t := same_rd s1r (show Rd _ t (.tup [.non, .int ((n : Int) + 1)]) from .inl upd_same)
      have h5t' := same_rd s2r (show Rd _ t' (.tup [.int ((n : Int) + 1), .int ((n : Int) + 1)]) from .inl upd_same)
      have h5r : Rd (upd (upd (upd (upd (upd H1 t (.tup [.non, .int ((n : Int) + 1)])) t' (.tup [.int ((n : Int) + 1), .int ((n : Int) + 1)])) l (.lst [.ref t, .ref t'])) p (.lst (acc ++ [.ref t, .ref t']))) tr (.tup (acc ++ [.ref t, .ref t']))) tr (.tup (acc ++ [.ref t, .ref t'])) := .inl upd_same
      have n5t : ∀ {B : Addr → Prop}, TB B H → ¬ B t := fun tb => tb_off (tb_same sm tb) nt
      have n5t' : ∀ {B : Addr → Prop}, TB B H → ¬ B t' := fun tb => tb_off (tb_same (sm.trans st) tb) nt'
      have n5r : ∀ {B : Addr → Prop}, TB B H → ¬ B tr := fun tb => tb_off (tb_same (sm.trans (st.trans (st'.trans (sl.trans sp)))) tb) ntr
      generalize upd (upd (upd (upd (upd H1 t (.tup [.non, .int ((n : Int) + 1)])) t' (.tup [.int ((n : Int) + 1), .int ((n : Int) + 1)])) l (.lst [.ref t, .ref t'])) p (.lst (acc ++ [.ref t, .ref t']))) tr (.tup (acc ++ [.ref t, .ref t'])) = G5 at *
      refine ⟨by show 1 ≤ sizeLine; decide, fun f1 nf1 => ?_⟩
      have s6 := same_new (o := .tup [.bl false]) nf1
      refine ⟨_, rfl, _, _, rfl, rfl, f1, (n : Int) + 1, _, rfl, rfl, .inl upd_same, List.cons_ne_nil _ _, by omega, by omega, by show 1 ≤ 1000; decide, fun q H7 s7 hq wq => ?_⟩
      rw [show (List.replicate ((n : Int) + 1).toNat [V.bl false]).flatten = (List.replicate (n + 1) false).map V.bl by rw [show ((n : Int) + 1).toNat = n + 1 by omega]; simp] at hq
      refine ⟨by show 1 ≤ sizeLine; decide, fun u nu => ?_⟩
      have s8 := same_new (o := .tup [.bl true]) nu
      refine ⟨q, u, _, _, rfl, rfl, same_rd s8 hq, .inl upd_same, sz_of (by rw [List.length_map, List.length_replicate, List.length_singleton]; omega), fun q2 H9 s9 hq2 w2 => ?_⟩
      refine ⟨by show 3 ≤ sizeLine; decide, fun z nz => ?_⟩
      have sz := same_new (o := .tup [.int 2, .ref tr, .ref q2]) nz
      have s59 := (s6.trans s7).trans ((s8.trans s9).trans sz)
      refine k _ (.ref z) (s5.trans s59) fun B tb => ?_
      have tb5 := tb_same s5 tb
      have tb6 := tb_same s6 tb5
      have tb7 := tb_same s7 tb6
      have nq := nb_of tb6 (tb_off tb5 nf1) wq
      have nq2 := nb_of2 (tb_same s8 tb7) nq (tb_off tb7 nu) w2
      have nz' := tb_off (tb_same (s8.trans s9) tb7) nz
      have hA := (hB B tb).weak (B' := B) (fun b hb => .inl hb)
      have er : (rsFar n).map rowDt = (List.range n).map frow ++ [rowDt [none, some (n + 1)], rowDt [some (n + 1), some (n + 1)]] := by
        unfold rsFar
        rw [List.map_append, List.map_map]
        rfl
      rw [Int.toNat_natCast] at hA
      have en : (n : Int) + 1 = ((n + 1 : Nat) : Int) := by omega
      refine .tup nz' (.inl upd_same) (.cons (.int _) (.cons (.tup (n5r tb) (same_rd s59 h5r) ?_) (.cons (.tup nq2 (same_rd sz hq2) ?_) .nil)))
      · rw [er]
        refine (same_all (s15.trans s59) hA).append (.cons (.tup (n5t tb) (same_rd s59 h5t) ?_) (.cons (.tup (n5t' tb) (same_rd s59 h5t') ?_) .nil))
        · rw [en]
          exact .cons .non (.cons (.int _) .nil)
        · rw [en]
          exact .cons (.int _) (.cons (.int _) .nil)
      · have := dt_cs (B := B) (K := K) (H := upd H9 z (.tup [.int 2, .ref tr, .ref q2])) (fun x => Dt.bl x) (esFar n)
        unfold esFar at this ⊢
        rw [List.map_append] at this
        exact this
end
/-! ### states behind a machine to which no word comes -/
/-- a machine and its parts as they lie -/
theorem dt_parts {B : Addr → Prop} {K : PySem.W.Frag} {H : Hp} {L : Nat} {rs : Rows} {es : List Bool} {v : V} (h : Dt B K H v (machDt L rs es)) : ∃ m pr pe rvs, v = .ref m ∧ ¬ B m ∧ ¬ B pr ∧ ¬ B pe ∧ MA H L rs es m pr pe rvs ∧ Dt B K H (.ref pr) (.tuple (rs.map rowDt)) ∧ Dt B K H (.ref pe) (.tuple (es.map .bool)) ∧ DtAll B K H rvs (rs.map rowDt) := by
  obtain ⟨m, xs, rfl, nm, hm, ha, _⟩ := h.tup_rd
  cases ha with
  | cons h1 ha =>
    cases ha with
    | cons h2 ha =>
      cases ha with
      | cons h3 ha =>
        cases ha
        cases h1
        have h2' := h2
        have h3' := h3
        obtain ⟨pr, rvs, rfl, n2, hr, har, hl⟩ := h2.tup_rd
        obtain ⟨pe, evs, rfl, n3, he, hae, _⟩ := h3.tup_rd
        rw [dt_sc b_sc hae] at he
        refine ⟨m, pr, pe, rvs, rfl, nm, n2, n3, ⟨hm, hr, by rw [hl, List.length_map], fun u row hu => ?_, he⟩, h2', h3', har⟩
        obtain ⟨v, hv, hd⟩ := har.get (i := u) (d := rowDt row) (by rw [List.getElem?_map, hu]; rfl)
        obtain ⟨q, ys, rfl, _, hq, hay, _⟩ := hd.tup_rd
        rw [dt_sc o_sc hay] at hq
        exact ⟨q, hv, hq⟩
def shO (n : Nat) (o : Option Nat) : Option Nat := o.map (· + n)
def behR (r1 r2 : Rows) : Rows := r1 ++ r2.map fun row => row.map (shO r1.length)
theorem mok_beh {L : Nat} {r1 r2 : Rows} {e1 e2 : List Bool} (M1 : MOk L r1 e1) (M2 : MOk L r2 e2) (h4 : r1.length + r2.length ≤ 400) : MOk L (behR r1 r2) (e1 ++ e2) where
  l1 := by
    have := M1.l1
    unfold behR
    rw [List.length_append, List.length_map]
    omega
  l400 := by
    unfold behR
    rw [List.length_append, List.length_map]
    exact h4
  row := fun row h => by
    unfold behR at h
    rcases List.mem_append.mp h with h | h
    · exact M1.row row h
    · obtain ⟨r, hr, rfl⟩ := List.mem_map.mp h
      rw [List.length_map]
      exact M2.row r hr
  tgt := fun row h v hv => by
    have e : (behR r1 r2).length = r1.length + r2.length := by
      unfold behR
      rw [List.length_append, List.length_map]
    rw [e]
    unfold behR at h
    rcases List.mem_append.mp h with h | h
    · have := M1.tgt row h v hv
      omega
    · obtain ⟨r, hr, rfl⟩ := List.mem_map.mp h
      obtain ⟨o, ho, e⟩ := List.mem_map.mp hv
      cases o with
      | none => cases e
      | some t =>
        cases e
        have := M2.tgt r hr t ho
        show t + r1.length < r1.length + r2.length
        omega
  es := by
    unfold behR
    rw [List.length_append, List.length_append, List.length_map, M1.es, M2.es]
  L1 := M1.L1
  L3 := M1.L3
theorem beh_nx {L : Nat} {r1 r2 : Rows} {e1 : List Bool} (_ : MOk L r1 e1) {s c : Nat} (hs : s < r1.length) : nx (behR r1 r2) s c = nx r1 s c := by
  have e : (behR r1 r2).getD s [] = r1.getD s [] := by
    unfold behR
    rw [List.getD_eq_getElem?_getD, List.getElem?_append_left hs, ← List.getD_eq_getElem?_getD]
  unfold nx
  rw [e]
theorem beh_run {L : Nat} {r1 r2 : Rows} {e1 : List Bool} (M1 : MOk L r1 e1) : ∀ (w : List Nat) (s : Nat), s < r1.length → run (behR r1 r2) w s = run r1 w s
  | [], s, _ => rfl
  | c :: w, s, hs => by
    rw [run_cons, run_cons, beh_nx M1 hs]
    cases e : nx r1 s c with
    | none => rfl
    | some t => exact beh_run M1 w t (M1.nx_lt e)
theorem beh_reach {L : Nat} {r1 r2 : Rows} {e1 : List Bool} (M1 : MOk L r1 e1) {p : Nat} (h : Reach (behR r1 r2) p) : p < r1.length := by
  obtain ⟨u, hu⟩ := reach_run.mp h
  rw [beh_run M1 u 0 M1.l1] at hu
  exact M1.run_lt u hu
theorem beh_acc {L : Nat} {r1 r2 : Rows} {e1 e2 : List Bool} (M1 : MOk L r1 e1) (w : List Nat) : acc (behR r1 r2) (e1 ++ e2) w 0 = acc r1 e1 w 0 := by
  rw [Bool.eq_iff_iff, acc_run, acc_run, beh_run M1 w 0 M1.l1]
  have key : ∀ t, run r1 w 0 = some t → (e1 ++ e2).getD t false = e1.getD t false := fun t ht => by
    have := M1.run_lt w ht
    have := M1.es
    rw [List.getD_eq_getElem?_getD, List.getElem?_append_left (by omega), ← List.getD_eq_getElem?_getD]
  constructor
  · rintro ⟨t, h1, h2⟩
    rw [key t h1] at h2
    exact ⟨t, h1, h2⟩
  · rintro ⟨t, h1, h2⟩
    exact ⟨t, h1, by rw [key t h1]; exact h2⟩

section
variable {P : Program} {w : World} {K : PySem.W.Frag} {mg : Str → Option Value} {base : Heap}
theorem scBehind : FnScope ["_law_one_here", "_law_other", "_law_many", "_law_rows", "_law_items", "_law_item"] ["_law_one_here", "_law_other"] (defScope sBehind) := ⟨rfl, rfl, rfl, by decide +kernel, rfl, by decide +kernel, by decide +kernel⟩
def spBehind (K : PySem.W.Frag) : Sp := fun vs H Q _ => ∃ (L : Nat) (r1 r2 : Rows) (e1 e2 : List Bool) (x y : V) (B : Addr → Prop), vs = [x, y] ∧ Dt B K H x (machDt L r1 e1) ∧ Dt B K H y (machDt L r2 e2) ∧ MOk L r1 e1 ∧ MOk L r2 e2 ∧ TB B H ∧
  ∀ H' v, Same H H' → Dt B K H' v (machDt L (behR r1 r2) (e1 ++ e2)) → Q v H'
theorem ok_behind {f : Addr} {fd : FuncData} (F : Fun K "_law_behind" "_law_behind" sBehind f fd) (T : Mg mg) : FnOk P w K mg base CX0 1 f fd ["_law_one_here", "_law_other"] (spBehind K) := by
  refine F.ok scBehind (fun vs H Q E h => ?_) (fun cdv A outer s H vs Q E hr h => ?_)
  · obtain ⟨L, r1, r2, e1, e2, x, y, B, rfl, _⟩ := h
    rfl
  · obtain ⟨L, r1, r2, e1, e2, x, y, B, rfl, hx, hy, M1, M2, tb, k⟩ := h
    refine ⟨_, (pss_cons (ps_asg (pe_tup (pa_cons (pe_callB (r := rLen K) call_len_seq (by rfl) T.len PySem.boot_len (pa_cons (pe_ix (r := rIxT K) ix_tup (pv 0) pe_int (fun _ _ => rfl)) pa_nil)) (pa_cons (pe_lst pa_nil) pa_nil))) (pg_tup rfl (pgs_cons (pg_name (i := 2) scBehind.nd rfl (.inr rfl)) (pgs_cons (pg_name (i := 3) scBehind.nd rfl (.inl rfl)) pgs_nil))))
      (pss_cons (ps_for PassesOwn.never rfl (pi_tup (pe_ix (r := rIxT K) ix_tup (pv 1) pe_int (fun _ _ => rfl))) (pg_name (i := 4) scBehind.nd rfl (.inl rfl)) (pss_one (ps_expr (pe_bm PySem.F.plainAttrs_list PySem.F.slot_list_append PySem.F.type_list_append mt_append (pv 3) (pa_cons (pe_callTy (r := rTup K) call_tuple_of (by rfl) T.tuple PyProof.Rows.boot_tuple (pa_cons (pe_lc (own := [("_law_item", 5)]) (g := gName 5) (tt := tYes) rfl scBehind.nd (pi_tup (pv 4)) (blkOk_by (N := ["_law_one_here", "_law_other", "_law_many", "_law_rows", "_law_items", "_law_item"]) (sc := defScope sBehind) (by decide +kernel)) (fun _ _ _ _ _ => pg_name (i := 5) scBehind.nd rfl (Or.inl rfl)) (fun _ _ _ _ _ => pts_nil) (fun _ _ _ _ _ => (pe_ifExp (pt_cmp (pc_isN (pv 5))) pe_non (pe_op op_add (pv 5) (pv 2))))) pa_nil)) pa_nil)))))
      (pss_one (ps_ret (pe_tup (pa_cons (pe_ix (r := rIxT K) ix_tup (pv 0) pe_int (fun _ _ => rfl)) (pa_cons (pe_op op_catS (pe_ix (r := rIxT K) ix_tup (pv 0) pe_int (fun _ _ => rfl)) (pe_callTy (r := rTup K) call_tuple_of (by rfl) T.tuple PyProof.Rows.boot_tuple (pa_cons (pv 3) pa_nil))) (pa_cons (pe_op op_catS (pe_ix (r := rIxT K) ix_tup (pv 0) pe_int (fun _ _ => rfl)) (pe_ix (r := rIxT K) ix_tup (pv 1) pe_int (fun _ _ => rfl))) pa_nil)))))))), ?_⟩
    have l4 := M1.l400
    have l4' := M2.l400
    have L3 := M1.L3
    obtain ⟨m1, pr1, pe1, rv1, rfl, nm1, np1, ne1, A1, dr1, de1, da1⟩ := dt_parts hx
    obtain ⟨m2, pr2, pe2, rv2, rfl, nm2, np2, ne2, A2, dr2, de2, da2⟩ := dt_parts hy
    have hl1 := A1.hl
    have hl2 := A2.hl
    refine ⟨_, rfl, m1, _, 1, _, rfl, rfl, .inl A1.hm, atI_nat (j := 1) rfl, pr1, rv1, rfl, .inr (.inl A1.hr), ?_⟩
    refine ⟨by show 0 ≤ sizeLine; decide, fun R hR => ?_⟩
    have t1 := same_new (o := .lst []) hR
    have R0 : H R = none := hR
    have hR1 : (upd H R (.lst [])) R = some (.lst []) := upd_same
    clear hR
    generalize upd H R (.lst []) = H1 at *
    refine ⟨by show 2 ≤ sizeLine; decide, fun tt htt => ?_⟩
    have t2 := same_new (o := .tup [.int (rv1.length : Int), .ref R]) htt
    have hR2 := t2 _ _ hR1
    have s2 := t1.trans t2
    refine ⟨tt, _, rfl, .inl (.inl upd_same), rfl, _, _, rfl, _, _, rfl, rfl, ?_⟩
    clear htt t2 hR1 t1
    generalize upd H1 tt (.tup [.int (rv1.length : Int), .ref R]) = H2 at *
    have A22 := A2.same s2
    refine ⟨_, rfl, m2, _, 1, _, rfl, rfl, .inl A22.hm, atI_nat (j := 1) rfl, pr2, rfl, ⟨_, .inl A22.hr⟩, ?_⟩
    refine for_tup (K := K) (a := pr2) (xs := rv2) (fun i σ H' => (∃ y4 y5 : Option V, σ = [some (.ref m1), some (.ref m2), some (.int (rv1.length : Int)), some (.ref R), y4, y5]) ∧ Same H H' ∧ ∃ dvs, H' R = some (.lst dvs) ∧ DtAll (fun b => B b ∨ b = R) K H' dvs (((r2.take i).map fun row => row.map (shO r1.length)).map rowDt))
      ⟨⟨_, _, rfl⟩, s2, [], hR2, .nil⟩ (fun i σ H' _ p => .inl (same_rd p.2.1 A2.hr)) ?_ ?_
    · rintro i x σ H3 hx3 ⟨⟨y4, y5, rfl⟩, s3, dvs, hR3, dv3⟩
      have il := (List.getElem?_eq_some_iff.mp hx3).1
      obtain ⟨row, hrow⟩ : ∃ row, r2[i]? = some row := ⟨_, List.getElem?_eq_getElem (by omega)⟩
      obtain ⟨q, hq1, hq⟩ := (A2.same s3).row i row hrow
      rw [hq1] at hx3
      cases hx3
      have hrl := M2.row row (List.mem_of_getElem? hrow)
      have ldv := dv3.len
      rw [List.length_map, List.length_map, List.length_take] at ldv
      refine ⟨_, rfl, .inl ⟨rfl, _, SqL.of hR3⟩, _, rfl, q, rfl, ⟨_, .inl hq⟩, fun D hD => ?_⟩
      refine lc_tup (K := K) (a := q) (xs := row.map oV) (NInv (fun o : Option Nat => oV (shO r1.length o)) row H3 D) (nstart hD) (fun i H' _ p => .inl (same_rd p.1 hq)) ?_ ?_
      · rintro j x H4 hx4 p1
        rw [List.getElem?_map] at hx4
        obtain ⟨o, ho, rfl⟩ := Option.map_eq_some_iff.mp hx4
        have sm1 : row.length < sizeLine := small1000 (by omega)
        refine ⟨rfl, _, rfl, _, rfl, ?_⟩
        cases o with
        | none => exact nturn (f := fun o : Option Nat => oV (shO r1.length o)) sm1 hD ho p1 (Same.refl _)
        | some t =>
          refine ⟨_, rfl, _, rfl, _, _, rfl, rfl, ?_⟩
          have := nturn (f := fun o : Option Nat => oV (shO r1.length o)) sm1 hD ho p1 (Same.refl _)
          rw [show oV (shO r1.length (some t)) = V.int ((t : Int) + (rv1.length : Int)) by
            show V.int ((t + r1.length : Nat) : Int) = _
            rw [hl1, Int.natCast_add]] at this
          exact this
      · rintro H4 p1
        obtain ⟨s4, hl4⟩ := nend (List.length_map _) p1
        have hR4 := s4 _ _ hR3
        have s34 := s3.trans s4
        have tb4 : TB (fun b => B b ∨ b = R) H4 := fun b z e => by
          rcases z with z | z
          · exact tb_same s34 tb b z e
          · rw [z, hR4] at e
            cases e
        refine ⟨D, _, rfl, .inl ⟨SqL.of hl4, fun t nt => ?_⟩⟩
        have st := same_new (o := .tup (row.map fun o : Option Nat => oV (shO r1.length o))) nt
        refine ⟨R, _, _, rfl, rfl, st _ _ hR4, small1000 (by omega), ⟨_, _, rfl⟩, fun b o e => ?_, _, upd_same, ?_⟩
        · rw [upd_ne (ne_of_none e R0)]
          exact st _ _ (s34 _ _ e)
        · refine DtAll.keep (keep_store (.inr rfl)) _ _ ?_
          rw [List.take_add_one, hrow, List.map_append, List.map_append]
          refine (same_all (s4.trans st) dv3).append (.cons (.tup (tb_off tb4 nt) (.inl upd_same) ?_) .nil)
          have := dt_cs (B := fun b => B b ∨ b = R) (K := K) (H := upd H4 t (.tup (row.map fun o : Option Nat => oV (shO r1.length o)))) o_cs (row.map (shO r1.length))
          rw [List.map_map] at this
          exact this
    · rintro σ H3 ⟨⟨y4, y5, rfl⟩, s3, dvs, hR3, dv3⟩
      rw [hl2, List.take_length] at dv3
      have ldv := dv3.len
      rw [List.length_map, List.length_map] at ldv
      have A13 := A1.same s3
      have A23 := A2.same s3
      have tb3 := tb_same s3 tb
      refine ⟨_, rfl, m1, _, 0, _, rfl, rfl, .inl A13.hm, atI_nat (j := 0) rfl, ?_⟩
      refine ⟨_, rfl, m1, _, 1, _, rfl, rfl, .inl A13.hm, atI_nat (j := 1) rfl, _, rfl, R, _, rfl, .inl ⟨SqL.of hR3, fun t nt => ?_⟩⟩
      have st := same_new (o := .tup dvs) nt
      have n1 := tb_off tb3 nt
      have hd1 := same_all st (DtAll.off nt _ _ dv3)
      have dv4 := same_all st (dv3.weak (B' := B) (fun b z => .inl z))
      have ht : Rd (upd H3 t (.tup dvs)) t (.tup dvs) := .inl upd_same
      have s4 := s3.trans st
      clear nt hd1
      generalize upd H3 t (.tup dvs) = H4 at *
      refine ⟨pr1, t, _, _, rfl, rfl, same_rd s4 A1.hr, ht, sz_of (by omega), fun q H5 s5 hq wq => ?_⟩
      have s05 := s4.trans s5
      have nq := nb_of2 (tb_same s4 tb) np1 n1 wq
      have A15 := A1.same s05
      have A25 := A2.same s05
      refine ⟨_, rfl, m1, _, 2, _, rfl, rfl, .inl A15.hm, atI_nat (j := 2) rfl, _, rfl, m2, _, 2, _, rfl, rfl, .inl A25.hm, atI_nat (j := 2) rfl, pe1, pe2, _, _, rfl, rfl, A15.he, A25.he, sz_of (by rw [List.length_map, List.length_map, M1.es, M2.es]; omega), fun q2 H6 s6 hq2 wq2 => ?_⟩
      have s06 := s05.trans s6
      have nq2 := nb_of2 (tb_same s05 tb) ne1 ne2 wq2
      refine ⟨by show 3 ≤ sizeLine; decide, fun z nz => ?_⟩
      have sz := same_new (o := .tup [.int (L : Int), .ref q, .ref q2]) nz
      refine k _ (.ref z) (s06.trans sz) (.tup (tb_off (tb_same s06 tb) nz) (.inl upd_same) (.cons (.int _) (.cons (.tup nq (same_rd (s6.trans sz) hq) ?_) (.cons (.tup nq2 (same_rd sz hq2) ?_) .nil))))
      · unfold behR
        rw [List.map_append]
        exact (same_all (s06.trans sz) da1).append (same_all (s5.trans (s6.trans sz)) dv4)
      · have := dt_cs (B := B) (K := K) (H := upd H6 z (.tup [.int (L : Int), .ref q, .ref q2])) (fun x => Dt.bl x) (e1 ++ e2)
        rw [List.map_append] at this
        exact this
end
/-! ### more on machines from behind -/
theorem nx_get {rs : Rws} {s c : Nat} {row : List (Option Nat)} (h : rs[s]? = some row) : nx rs s c = row.getD c none := by
  unfold nx
  rw [List.getD_eq_getElem?_getD (l := rs), h]
  rfl

theorem lng_of {n : Nat} {ring : Bool} (h : 2 ≤ n) : Lng n ring (rsLong n ring) (esLong n) := by
  have hl := long_len (n := n) (ring := ring) (by omega)
  have lm : ((List.range (n - 1)).map fun i => [some (i + 1)]).length = n - 1 := by rw [List.length_map, List.length_range]
  have el : (esLong n).length = n := by
    unfold esLong
    rw [List.length_append, List.length_replicate, List.length_singleton]
    omega
  refine ⟨by omega, hl, el, fun r hr => ?_, fun s hs => ?_, ?_, fun s hs => ?_⟩
  · unfold rsLong at hr
    rcases List.mem_append.mp hr with z | z
    · obtain ⟨i, _, rfl⟩ := List.mem_map.mp z
      rfl
    · rw [List.mem_singleton.mp z]
      rfl
  · refine (nx_get (row := [some (s + 1)]) ?_).trans rfl
    unfold rsLong
    rw [List.getElem?_append_left (by omega), List.getElem?_map, List.getElem?_range (by omega)]
    rfl
  · refine (nx_get (row := [if ring then some 0 else none]) ?_).trans ?_
    · unfold rsLong
      rw [List.getElem?_append_right (by omega), lm, Nat.sub_self]
      rfl
    · show (if ring then some 0 else none) = _
      rfl
  · have := @long_end n s (by omega)
    have hv : (esLong n)[s]? = some ((esLong n).getD s false) := by
      rw [getD_at (by omega)]
      exact List.getElem?_eq_getElem (by omega)
    rw [hv] at this
    by_cases z : s = n - 1
    · rw [decide_eq_true z]
      exact Option.some.inj (this.mpr (by omega))
    · rw [decide_eq_false z]
      cases q : (esLong n).getD s false with
      | false => rfl
      | true =>
        rw [q] at this
        have := this.mp rfl
        omega

theorem row_mem {row : List (Option Nat)} {t : Nat} (h : some t ∈ row) : ∃ c, row.getD c none = some t := by
  obtain ⟨c, hc⟩ := List.mem_iff_getElem?.mp h
  exact ⟨c, by rw [List.getD_eq_getElem?_getD, hc]; rfl⟩
theorem getD_mem {row : List (Option Nat)} {c t : Nat} (h : row.getD c none = some t) : some t ∈ row := by
  rw [List.getD_eq_getElem?_getD] at h
  cases e : row[c]? with
  | none =>
    rw [e] at h
    cases h
  | some x =>
    rw [e] at h
    have h : x = some t := h
    rw [h] at e
    exact List.mem_of_getElem? e
def PD (n : Nat) (o x : Option Nat) : Prop := (o = none ∧ x = none) ∨ ∃ t, o = some t ∧ (x = some t ∨ x = some (t + n))
theorem smallest_mok {rs : Rows} {es : List Bool} {L : Nat} {out : Rws} {oe : List Bool} (M : MOk L rs es) (h : Smallest rs es L out oe) : MOk L out oe := by
  have el := smallest_len h
  rcases h with ⟨ps, C⟩ | ⟨_, rfl, rfl⟩
  · have lo := C.lo
    have l0 := (List.getElem?_eq_some_iff.mp C.zero).1
    have l4 := M.l400
    have cm := (canon_many C M.row M.es).2
    refine ⟨by omega, by omega, C.wide, fun row hr t ht => ?_, el, M.L1, M.L3⟩
    obtain ⟨i, hi⟩ := List.mem_iff_getElem?.mp hr
    obtain ⟨c, hc⟩ := row_mem ht
    have il := (List.getElem?_eq_some_iff.mp hi).1
    have e : nx out i c = some t := by rw [nx_get hi]; exact hc
    obtain ⟨_, q, _, hq, _⟩ := C.some_ i _ c t (List.getElem?_eq_getElem (show i < ps.length by omega)) e
    have := (List.getElem?_eq_some_iff.mp hq).1
    omega
  · refine ⟨Nat.le_refl _, by show 1 ≤ 400; decide, fun row hr => ?_, fun row hr t ht => ?_, rfl, M.L1, M.L3⟩
    · rw [List.mem_singleton.mp hr, List.length_replicate]
    · rw [List.mem_singleton.mp hr] at ht
      have := (List.mem_replicate.mp ht).2
      cases this

/-! few sets -/
section
variable {rs : Rows} {es : List Bool} {L : Nat} {ord : List Nat}
theorem few_ok {N : Nat} (M : MOk L rs es) (O : IsOrd rs ord) (h4 : 2 ^ N ≤ 400) (hlt : ∀ p ∈ ord, p < N) : ∃ r, bRun (waysN L rs ord) 401 [startN es ord] [] = some r :=
  run_few (L := L) (P := fun x => x < 2 ^ N) (g := id) (fun c x hc => joined_lt M O hc) (start_lt O) ways_len (fun c x hc _ _ => bit_lt fun p hp => hlt p ((joined_bit M hc).mp hp).1) (fun x h => h) (fun x y _ _ e => e) h4 401 _ [] (bi_start (start_lt O)) (fun x hx => by
    rw [List.mem_singleton.mp hx]
    exact bit_lt fun p hp => hlt p (start_bit.mp hp).1) rfl (Nat.zero_le _)
end
/-! rows and rings from behind -/
section
variable {n : Nat} {ring : Bool} {ord : List Nat}
theorem long_reach {rs : Rows} {es : List Bool} (h : Lng n ring rs es) : ∀ s, s < n → Reach rs s
  | 0, _ => .z
  | s + 1, hs => reach_on (long_reach h s (by omega)) (h.go s hs)
theorem long_few (n2 : 2 ≤ n) (n4 : n ≤ 400) (O : IsOrd (rsLong n ring) ord) : ∃ r, bRun (waysN 1 (rsLong n ring) ord) 401 [startN (esLong n) ord] [] = some r := by
  have h := lng_of (ring := ring) n2
  have M := mok_long (ring := ring) n2 n4
  refine run_few (L := 1) (P := fun x => ∃ s, s < n ∧ x = 2 ^ s) (g := Nat.log2) (fun c x hc => joined_lt M O hc) (start_lt O) ways_len (fun c x hc ⟨s, hs, ex⟩ nz => ?_) (fun x ⟨s, hs, ex⟩ => by rw [ex, Nat.log2_two_pow]; exact hs) (fun x y ⟨s, _, ex⟩ ⟨t, _, ey⟩ e => by rw [ex, ey, Nat.log2_two_pow, Nat.log2_two_pow] at e; rw [ex, ey, e]) n4 401 _ [] (bi_start (start_lt O)) (fun x hx => ?_) rfl (Nat.zero_le _)
  · obtain ⟨p, hp⟩ := bit_ne nz
    obtain ⟨po, t, ht, tb⟩ := (joined_bit M hc).mp hp
    rw [ex, Nat.testBit_two_pow, decide_eq_true_eq] at tb
    subst tb
    obtain ⟨c0, pn, v1⟩ := h.val ht
    refine ⟨p, pn, Nat.eq_of_testBit_eq fun q => ?_⟩
    rw [Nat.testBit_two_pow, Bool.eq_iff_iff, joined_bit M hc, decide_eq_true_eq]
    constructor
    · rintro ⟨_, t', ht', tb'⟩
      rw [ex, Nat.testBit_two_pow, decide_eq_true_eq] at tb'
      subst tb'
      obtain ⟨_, qn, v2⟩ := h.val ht'
      omega
    · rintro rfl
      exact ⟨po, s, ht, by rw [ex, Nat.testBit_two_pow]; exact decide_eq_true rfl⟩
  · rw [List.mem_singleton.mp hx]
    refine ⟨n - 1, by omega, Nat.eq_of_testBit_eq fun q => ?_⟩
    rw [Nat.testBit_two_pow, Bool.eq_iff_iff, start_bit, decide_eq_true_eq]
    constructor
    · rintro ⟨qo, qe⟩
      have ql := O.lt q qo
      rw [h.len] at ql
      rw [h.en q ql, decide_eq_true_eq] at qe
      exact qe.symm
    · rintro rfl
      exact ⟨(O.mem _).mpr (long_reach h _ (by omega)), by rw [h.en _ (by omega)]; exact decide_eq_true rfl⟩
theorem acc_wl {rs : Rws} {es : List Bool} {L : Nat} (wide : ∀ r ∈ rs, r.length = L) : ∀ (w : List Nat) (s : Nat), acc rs es w s = true → Wl L w
  | [], _, _ => fun c hc => absurd hc List.not_mem_nil
  | c :: w, s, h => by
    cases e : nx rs s c with
    | none =>
      rw [acc_none e] at h
      cases h
    | some t =>
      rw [acc_cons e] at h
      intro x hx
      rcases List.mem_cons.mp hx with z | z
      · rw [z]
        exact (nx_lt wide e).2.1
      · exact acc_wl wide w t h x z
theorem wl_one {w : List Nat} (h : Wl 1 w) : w = List.replicate w.length 0 := List.eq_replicate_iff.mpr ⟨rfl, fun c hc => by
  have := h c hc
  omega⟩
theorem rev_one {w : List Nat} (h : Wl 1 w) : w.reverse = w := by
  rw [wl_one h, List.reverse_replicate]
/-- a row or a ring is its own machine from behind -/
theorem long_back {rs : Rows} {es : List Bool} {done : Rws} {oe : List Bool} (h : Lng n ring rs es) (S : Smallest done oe 1 done oe) (R : RevOf rs es done oe) : done = rs ∧ oe = es := by
  refine smallest_eq S (.inl ⟨_, h.canon⟩) fun w => ?_
  rw [R w]
  by_cases z : Wl 1 w
  · rw [rev_one z]
  · have a : acc rs es w 0 = false := by
      cases e : acc rs es w 0 with
      | false => rfl
      | true => exact absurd (acc_wl h.wide w 0 e) z
    have b : acc rs es w.reverse 0 = false := by
      cases e : acc rs es w.reverse 0 with
      | false => rfl
      | true => exact absurd (fun c hc => acc_wl h.wide _ 0 e c (List.mem_reverse.mpr hc)) z
    rw [a, b]
end
/-! the words that part rows and rings -/
theorem sl_len : ∀ {u w : List Nat}, Sl u w → u.length ≤ w.length
  | [], _, _ => Nat.zero_le _
  | _ :: _, [], h => h.elim
  | _ :: u, _ :: w, h => by
    rcases h with h | ⟨h, _⟩
    · have := sl_len h
      simp only [List.length_cons]
      omega
    · rw [h]
      exact Nat.le_refl _
theorem first_one {p : List Nat → Prop} {m : Nat} (hm : p (List.replicate m 0)) (hn : ∀ k, k < m → ¬ p (List.replicate k 0)) : First p 1 (some (List.replicate m 0)) := by
  refine ⟨fun c hc => by rw [(List.mem_replicate.mp hc).2]; decide, hm, fun u hu s z => ?_⟩
  have hu := wl_one hu
  rw [hu] at s z
  have l := sl_len s
  rw [List.length_replicate, List.length_replicate] at l
  by_cases e : u.length = m
  · rw [e] at s
    exact sl_irr _ s
  · exact hn u.length (by omega) z
section
variable {n : Nat} {ring : Bool} {rs : Rows} {es : List Bool}
theorem Lng.run_go (h : Lng n ring rs es) : ∀ (k s : Nat), s + k < n → run rs (List.replicate k 0) s = some (s + k)
  | 0, s, _ => rfl
  | k + 1, s, hs => by
    rw [List.replicate_succ, run_cons, h.go s (by omega)]
    show run rs (List.replicate k 0) (s + 1) = _
    rw [h.run_go k (s + 1) (by omega)]
    congr 1
    omega
theorem Lng.run_round (h : Lng n ring rs es) : run rs (List.replicate n 0) 0 = if ring = true then some 0 else none := by
  have hp := h.pos
  have e : List.replicate n 0 = List.replicate (n - 1) 0 ++ [0] := by
    have e1 : n - 1 + 1 = n := by omega
    calc List.replicate n 0 = List.replicate (n - 1 + 1) 0 := by rw [e1]
      _ = List.replicate (n - 1) 0 ++ [0] := List.replicate_succ'
  rw [e, run_snoc, h.run_go (n - 1) 0 (by omega), Nat.zero_add]
  exact h.last
theorem Lng.acc_more (h : Lng n ring rs es) (k : Nat) : acc rs es (List.replicate (n + k) 0) 0 = if ring = true then acc rs es (List.replicate k 0) 0 else false := by
  have e := h.run_round
  have ea : List.replicate (n + k) 0 = List.replicate n 0 ++ List.replicate k 0 := List.replicate_append_replicate.symm
  rw [ea]
  by_cases z : ring = true
  · rw [if_pos z]
    rw [if_pos z] at e
    rw [Bool.eq_iff_iff, acc_run, acc_run, run_append, e]
    exact Iff.rfl
  · rw [if_neg z]
    rw [if_neg z] at e
    cases q : acc rs es (List.replicate n 0 ++ List.replicate k 0) 0 with
    | false => rfl
    | true =>
      obtain ⟨t, h1, _⟩ := (acc_run _ _).mp q
      rw [run_append, e] at h1
      cases h1
theorem Lng.acc_at (h : Lng n ring rs es) {k : Nat} (hk : k < n) : acc rs es (List.replicate k 0) 0 = decide (k = n - 1) := by
  rw [h.reach k 0 (by omega), Nat.zero_add]
end
section
variable {n : Nat}
theorem acc_noend {rs : Rws} {m : Nat} (w : List Nat) (s : Nat) : acc rs (List.replicate m false) w s = false := by
  cases e : acc rs (List.replicate m false) w s with
  | false => rfl
  | true =>
    obtain ⟨t, _, h⟩ := (acc_run w s).mp e
    rw [List.getD_eq_getElem?_getD, List.getElem?_replicate] at h
    split at h <;> cases h
theorem unl_one {r1 r2 : Rows} {e1 e2 : List Bool} (M1 : MOk 1 r1 e1) (M2 : MOk 1 r2 e2) (k : Nat) : Unl 1 r1 r2 e1 e2 (List.replicate k 0) ↔ acc r1 e1 (List.replicate k 0) 0 ≠ acc r2 e2 (List.replicate k 0) 0 := by
  rw [unl_iff M1 M2 (fun c hc => by rw [(List.mem_replicate.mp hc).2]; decide), List.reverse_replicate]
theorem mok_none (n2 : 2 ≤ n) (n4 : n ≤ 400) : MOk 1 (rsLong n false) (List.replicate n false) := by
  have M := mok_long (ring := false) n2 n4
  exact ⟨M.l1, M.l400, M.row, M.tgt, by rw [List.length_replicate, long_len (by omega)], M.L1, M.L3⟩
theorem first_none (n2 : 2 ≤ n) (n4 : n ≤ 400) : First (Unl 1 (rsLong n false) (rsLong n false) (esLong n) (List.replicate n false)) 1 (some (List.replicate (n - 1) 0)) := by
  have h := lng_of (ring := false) n2
  refine first_one ?_ fun k hk => ?_
  · rw [unl_one (mok_long n2 n4) (mok_none n2 n4), acc_noend, h.acc_at (by omega)]
    simp
  · rw [unl_one (mok_long n2 n4) (mok_none n2 n4), acc_noend, h.acc_at (by omega), decide_eq_false (by omega)]
    exact fun z => z rfl
theorem first_ring (n2 : 2 ≤ n) (n4 : n ≤ 400) : First (Unl 1 (rsLong n false) (rsLong n true) (esLong n) (esLong n)) 1 (some (List.replicate (2 * n - 1) 0)) := by
  have h := lng_of (ring := false) n2
  have g := lng_of (ring := true) n2
  refine first_one ?_ fun k hk => ?_
  · rw [unl_one (mok_long n2 n4) (mok_long n2 n4), show 2 * n - 1 = n + (n - 1) by omega, h.acc_more, g.acc_more, if_neg Bool.false_ne_true, if_pos rfl, g.acc_at (by omega), decide_eq_true rfl]
    exact Bool.false_ne_true
  · rw [unl_one (mok_long n2 n4) (mok_long n2 n4)]
    rcases Nat.lt_or_ge k n with l | l
    · rw [h.acc_at l, g.acc_at l]
      exact fun z => z rfl
    · obtain ⟨j, rfl⟩ : ∃ j, k = n + j := ⟨k - n, by omega⟩
      rw [h.acc_more, g.acc_more, if_neg Bool.false_ne_true, if_pos rfl, g.acc_at (by omega), decide_eq_false (by omega)]
      exact fun z => z rfl
theorem first_same {rs : Rows} {es : List Bool} {L : Nat} (M : MOk L rs es) : First (Unl L rs rs es es) L none := fun u hu z => (unl_iff M M hu).mp z rfl
end
/-! a far letter from behind -/
section
variable {p : Nat} {ord : List Nat}
theorem far_nx (p q c : Nat) : nx (rsFar p) q c = if q < p then (if c < 2 then some (q + 1) else none) else if q = p then (if c = 1 then some (p + 1) else none) else if q = p + 1 then (if c < 2 then some (p + 1) else none) else none := by
  have two : ∀ (x y : Option Nat) (c : Nat), [x, y].getD c none = if c = 0 then x else if c = 1 then y else none := fun x y c => by
    cases c with
    | zero => rfl
    | succ c =>
      cases c with
      | zero => rfl
      | succ c => rfl
  have lm : ((List.range p).map fun i => [some (i + 1), some (i + 1)]).length = p := by rw [List.length_map, List.length_range]
  rcases Nat.lt_trichotomy q p with l | l | l
  · rw [if_pos l]
    have e : (rsFar p)[q]? = some [some (q + 1), some (q + 1)] := by
      unfold rsFar
      rw [List.getElem?_append_left (by omega), List.getElem?_map, List.getElem?_range l]
      rfl
    rw [nx_get e, two]
    split
    · rw [if_pos (by omega)]
    · split
      · rw [if_pos (by omega)]
      · rw [if_neg (by omega)]
  · subst l
    rw [if_neg (Nat.lt_irrefl _), if_pos rfl]
    have e : (rsFar q)[q]? = some [none, some (q + 1)] := by
      unfold rsFar
      rw [List.getElem?_append_right (by omega), lm, Nat.sub_self]
      rfl
    rw [nx_get e, two]
    split
    · rw [if_neg (by omega)]
    · rfl
  · rw [if_neg (by omega), if_neg (by omega)]
    by_cases z : q = p + 1
    · subst z
      rw [if_pos rfl]
      have e : (rsFar p)[p + 1]? = some [some (p + 1), some (p + 1)] := by
        unfold rsFar
        rw [List.getElem?_append_right (by omega), lm, show p + 1 - p = 1 by omega]
        rfl
      rw [nx_get e, two]
      split
      · rw [if_pos (by omega)]
      · split
        · rw [if_pos (by omega)]
        · rw [if_neg (by omega)]
    · rw [if_neg z]
      exact nx_ge (by rw [far_len]; omega)
theorem far_reach (p : Nat) : ∀ q, q < p + 2 → Reach (rsFar p) q
  | 0, _ => .z
  | q + 1, hq => by
    have r := far_reach p q (by omega)
    by_cases z : q < p
    · exact reach_on (c := 0) r (by rw [far_nx, if_pos z]; rfl)
    · have : q = p := by omega
      subst this
      exact reach_on (c := 1) r (by rw [far_nx, if_neg z, if_pos rfl]; rfl)
/-- the k-th lot that comes -/
def sF (p k : Nat) : Nat := bitsN ((List.range (p + 2)).filter fun q => decide (q = p + 1) || (decide (q ≤ p) && k.testBit (p - q)))
theorem sF_bit {p k q : Nat} : (sF p k).testBit q = true ↔ q = p + 1 ∨ (q ≤ p ∧ k.testBit (p - q) = true) := by
  unfold sF
  rw [bits_bit, decide_eq_true_eq, List.mem_filter, List.mem_range, Bool.or_eq_true, Bool.and_eq_true, decide_eq_true_eq, decide_eq_true_eq]
  exact ⟨fun h => h.2, fun h => ⟨by omega, h⟩⟩
theorem sF_ne (p k : Nat) : sF p k ≠ 0 := fun z => by
  have := (sF_bit (p := p) (k := k) (q := p + 1)).mpr (.inl rfl)
  rw [z, Nat.zero_testBit] at this
  cases this
theorem sF_inj {p k k' : Nat} (h : k < 2 ^ (p + 1)) (h' : k' < 2 ^ (p + 1)) (e : sF p k = sF p k') : k = k' := Nat.eq_of_testBit_eq fun j => by
  rcases Nat.lt_or_ge j (p + 1) with l | l
  · have a := sF_bit (p := p) (k := k) (q := p - j)
    have b := sF_bit (p := p) (k := k') (q := p - j)
    rw [e] at a
    rw [show p - (p - j) = j by omega] at a b
    rw [Bool.eq_iff_iff]
    constructor
    · intro z
      rcases b.mp (a.mpr (.inr ⟨by omega, z⟩)) with y | y
      · omega
      · exact y.2
    · intro z
      rcases a.mp (b.mpr (.inr ⟨by omega, z⟩)) with y | y
      · omega
      · exact y.2
  · rw [Nat.testBit_lt_two_pow (Nat.lt_of_lt_of_le h (Nat.pow_le_pow_right (by omega) l)), Nat.testBit_lt_two_pow (Nat.lt_of_lt_of_le h' (Nat.pow_le_pow_right (by omega) l))]
theorem sF_mod (p k : Nat) : sF p k = sF p (k % 2 ^ (p + 1)) := Nat.eq_of_testBit_eq fun q => by
  rw [Bool.eq_iff_iff, sF_bit, sF_bit, Nat.testBit_mod_two_pow, Bool.and_eq_true, decide_eq_true_eq]
  constructor
  · rintro (h | ⟨h, g⟩)
    · exact .inl h
    · exact .inr ⟨h, by omega, g⟩
  · rintro (h | ⟨h, _, g⟩)
    · exact .inl h
    · exact .inr ⟨h, g⟩
theorem dbl_bit (k j b : Nat) (hb : b < 2) : (2 * k + b).testBit j = true ↔ (j = 0 ∧ b = 1) ∨ (1 ≤ j ∧ k.testBit (j - 1) = true) := by
  cases j with
  | zero =>
    rw [Nat.testBit_zero, decide_eq_true_eq]
    constructor
    · intro h
      exact .inl ⟨rfl, by omega⟩
    · rintro (⟨_, h⟩ | ⟨h, _⟩)
      · omega
      · omega
  | succ j =>
    rw [Nat.testBit_succ, show (2 * k + b) / 2 = k by omega, Nat.add_sub_cancel]
    constructor
    · intro h
      exact .inr ⟨by omega, h⟩
    · rintro (⟨h, _⟩ | ⟨_, h⟩)
      · omega
      · exact h
theorem far_join (hp : p ≤ 20) (O : IsOrd (rsFar p) ord) {c : Nat} (hc : c < 2) (k : Nat) : joinN ((waysN 2 (rsFar p) ord).getD c []) (sF p k) = sF p (2 * k + c) := Nat.eq_of_testBit_eq fun q => by
  rw [Bool.eq_iff_iff, joined_bit (mok_far hp) hc, sF_bit, dbl_bit _ _ _ hc]
  constructor
  · rintro ⟨_, s, hs, hb⟩
    rw [far_nx] at hs
    rw [sF_bit] at hb
    split at hs
    · rename_i l
      cases hs
      rcases hb with z | ⟨_, z⟩
      · omega
      · exact .inr ⟨by omega, .inr ⟨by omega, by rw [show p - q - 1 = p - (q + 1) by omega]; exact z⟩⟩
    · split at hs
      · rename_i l
        split at hs
        · rename_i c1
          exact .inr ⟨by omega, .inl ⟨by omega, c1⟩⟩
        · cases hs
      · split at hs
        · rename_i l
          exact .inl l
        · cases hs
  · intro h
    have ql : q < p + 2 := by
      rcases h with h | ⟨h, _⟩
      · omega
      · omega
    refine ⟨(O.mem q).mpr (far_reach p q ql), ?_⟩
    rcases h with h | ⟨h, g⟩
    · refine ⟨p + 1, ?_, sF_bit.mpr (.inl rfl)⟩
      rw [far_nx, if_neg (by omega), if_neg (by omega), if_pos h, if_pos hc]
    · rcases g with ⟨g, c1⟩ | ⟨g, z⟩
      · have : q = p := by omega
        subst this
        refine ⟨q + 1, ?_, sF_bit.mpr (.inl rfl)⟩
        rw [far_nx, if_neg (Nat.lt_irrefl _), if_pos rfl, if_pos c1]
      · refine ⟨q + 1, ?_, sF_bit.mpr (.inr ⟨by omega, by rw [show p - (q + 1) = p - q - 1 by omega]; exact z⟩)⟩
        rw [far_nx, if_pos (by omega), if_pos hc]
theorem far_start (O : IsOrd (rsFar p) ord) : startN (esFar p) ord = sF p 0 := Nat.eq_of_testBit_eq fun q => by
  have en : ∀ q, (esFar p).getD q false = true ↔ q = p + 1 := fun q => by
    unfold esFar
    rw [List.getD_eq_getElem?_getD]
    rcases Nat.lt_trichotomy q (p + 1) with l | l | l
    · rw [List.getElem?_append_left (by rw [List.length_replicate]; exact l), List.getElem?_replicate, if_pos l]
      exact ⟨fun z => (by cases z), fun z => by omega⟩
    · rw [List.getElem?_append_right (by rw [List.length_replicate]; omega), List.length_replicate, l, Nat.sub_self]
      exact ⟨fun _ => rfl, fun _ => rfl⟩
    · rw [List.getElem?_append_right (by rw [List.length_replicate]; omega), List.length_replicate, List.getElem?_eq_none (by show 1 ≤ q - (p + 1); omega)]
      exact ⟨fun z => (by cases z), fun z => by omega⟩
  rw [Bool.eq_iff_iff, start_bit, sF_bit, en, Nat.zero_testBit]
  constructor
  · exact fun h => .inl h.2
  · rintro (h | ⟨_, h⟩)
    · exact ⟨(O.mem q).mpr (far_reach p q (by omega)), h⟩
    · cases h
def mF (p d : Nat) : Nat := if d = 0 then 1 else min (2 * d) (2 ^ (p + 1))
theorem sF_mem {p m k : Nat} (hm : m ≤ 2 ^ (p + 1)) (hk : k < 2 ^ (p + 1)) : sF p k ∈ (List.range m).map (sF p) ↔ k < m := by
  constructor
  · intro h
    obtain ⟨j, hj, e⟩ := List.mem_map.mp h
    have hj := List.mem_range.mp hj
    rw [← sF_inj (by omega) hk e]
    exact hj
  · exact fun h => List.mem_map.mpr ⟨k, List.mem_range.mpr h, rfl⟩
theorem bStep_fst {w : List Nat} {held b : Nat} {a : List Nat × List (Option Nat)} (e : joinN w held = b) (nz : b ≠ 0) : (bStep w held a).1 = if b ∈ a.1 then a.1 else a.1 ++ [b] := by
  unfold bStep
  rw [e, if_neg nz]
  split <;> rfl
theorem far_row (hp : p ≤ 20) (O : IsOrd (rsFar p) ord) {d : Nat} (hd : d < mF p d) : (bRow (waysN 2 (rsFar p) ord) (sF p d) ((List.range (mF p d)).map (sF p))).1 = (List.range (mF p (d + 1))).map (sF p) := by
  have pw : 2 ^ (p + 1) = 2 * 2 ^ p := by rw [Nat.pow_succ, Nat.mul_comm]
  have pp := Nat.two_pow_pos p
  have e : waysN 2 (rsFar p) ord = [(waysN 2 (rsFar p) ord).getD 0 [], (waysN 2 (rsFar p) ord).getD 1 []] := by
    have l := ways_len (rs := rsFar p) (L := 2) (ord := ord)
    match waysN 2 (rsFar p) ord, l with
    | [x, y], _ => rfl
  have j0 := far_join hp O (c := 0) (by decide) d
  have j1 := far_join hp O (c := 1) (by decide) d
  rw [Nat.add_zero] at j0
  unfold bRow
  rw [e]
  show (bStep ((waysN 2 (rsFar p) ord).getD 1 []) (sF p d) (bStep ((waysN 2 (rsFar p) ord).getD 0 []) (sF p d) ((List.range (mF p d)).map (sF p), []))).1 = _
  rw [bStep_fst j1 (sF_ne _ _), bStep_fst j0 (sF_ne _ _)]
  have app : ∀ m, (List.range m).map (sF p) ++ [sF p m] = (List.range (m + 1)).map (sF p) := fun m => by
    rw [List.range_succ, List.map_append]
    rfl
  have m1 : mF p (d + 1) = min (2 * (d + 1)) (2 ^ (p + 1)) := if_neg (by omega)
  by_cases z : d = 0
  · subst z
    have m0 : mF p 0 = 1 := rfl
    rw [m0, m1, show min (2 * (0 + 1)) (2 ^ (p + 1)) = 2 by omega]
    rw [if_pos ((sF_mem (by omega) (by omega)).mpr (by omega)), if_neg (fun y => by have := (sF_mem (by omega) (by omega)).mp y; omega)]
    exact app 1
  · have m0 : mF p d = min (2 * d) (2 ^ (p + 1)) := if_neg z
    rw [m0] at hd ⊢
    rw [m1]
    rcases Nat.lt_or_ge (2 * d) (2 ^ (p + 1)) with l | l
    · rw [show min (2 * d) (2 ^ (p + 1)) = 2 * d by omega, show min (2 * (d + 1)) (2 ^ (p + 1)) = 2 * d + 1 + 1 by omega]
      rw [if_neg (c := sF p (2 * d) ∈ (List.range (2 * d)).map (sF p)) (fun y => by have := (sF_mem (by omega) (by omega)).mp y; omega), app (2 * d)]
      rw [if_neg (fun y => by have := (sF_mem (by omega) (by omega)).mp y; omega)]
      exact app (2 * d + 1)
    · rw [show min (2 * d) (2 ^ (p + 1)) = 2 ^ (p + 1) by omega, show min (2 * (d + 1)) (2 ^ (p + 1)) = 2 ^ (p + 1) by omega]
      have ll : ∀ b, sF p (2 * d + b) ∈ (List.range (2 ^ (p + 1))).map (sF p) := fun b => by
        rw [sF_mod]
        exact (sF_mem (Nat.le_refl _) (Nat.mod_lt _ (by omega))).mpr (Nat.mod_lt _ (by omega))
      rw [if_pos (c := sF p (2 * d) ∈ (List.range (2 ^ (p + 1))).map (sF p)) (ll 0), if_pos (ll 1)]
theorem far_run (hp : p ≤ 20) (O : IsOrd (rsFar p) ord) : ∀ (f d : Nat) (done : Rws), done.length = d → f + d = 401 → d ≤ mF p d → mF p d ≤ 400 → (2 ^ (p + 1) ≤ 400 → ∃ r, bRun (waysN 2 (rsFar p) ord) f ((List.range (mF p d)).map (sF p)) done = some r ∧ r.2.length = 2 ^ (p + 1)) ∧ (400 < 2 ^ (p + 1) → bRun (waysN 2 (rsFar p) ord) f ((List.range (mF p d)).map (sF p)) done = none)
  | 0, d, done, hl, hf, hd, h4 => by omega
  | f + 1, d, done, hl, hf, hd, h4 => by
    have pp := Nat.two_pow_pos (p + 1)
    rcases Nat.lt_or_ge d (mF p d) with l | l
    · have hh : ((List.range (mF p d)).map (sF p))[done.length]? = some (sF p d) := by
        rw [hl, List.getElem?_map, List.getElem?_range l]
        rfl
      rw [bRun_on hh, far_row hp O l, List.length_map, List.length_range]
      have m1 : mF p (d + 1) = min (2 * (d + 1)) (2 ^ (p + 1)) := if_neg (by omega)
      have dM : d < 2 ^ (p + 1) := by
        unfold mF at l
        split at l
        · omega
        · omega
      have l1 : (done ++ [(bRow (waysN 2 (rsFar p) ord) (sF p d) ((List.range (mF p d)).map (sF p))).2]).length = d + 1 := by rw [List.length_append, hl]; rfl
      by_cases g : 400 < mF p (d + 1)
      · rw [if_pos g]
        exact ⟨fun h => by omega, fun _ => rfl⟩
      · rw [if_neg g]
        exact far_run hp O f (d + 1) _ l1 (by omega) (by omega) (by omega)
    · have e : d = mF p d := by omega
      have e2 : mF p d = 2 ^ (p + 1) := by
        unfold mF at e ⊢
        split at e
        · omega
        · rename_i z
          rw [if_neg z]
          omega
      rw [bRun_end (by rw [List.length_map, List.length_range]; omega)]
      refine ⟨fun _ => ⟨_, rfl, ?_⟩, fun h => by omega⟩
      show done.length = _
      omega
theorem far_small (hp : p < 8) (O : IsOrd (rsFar p) ord) : ∃ r, bRun (waysN 2 (rsFar p) ord) 401 [startN (esFar p) ord] [] = some r ∧ r.2.length = 2 ^ (p + 1) := by
  rw [far_start O]
  exact (far_run (by omega) O 401 0 [] rfl rfl (Nat.zero_le _) (by show 1 ≤ 400; decide)).1 (Nat.le_trans (Nat.pow_le_pow_right (by decide) (show p + 1 ≤ 8 by omega)) (by decide))
theorem far_great (hp : 8 ≤ p) (hq : p ≤ 20) (O : IsOrd (rsFar p) ord) : bRun (waysN 2 (rsFar p) ord) 401 [startN (esFar p) ord] [] = none := by
  rw [far_start O]
  exact (far_run hq O 401 0 [] rfl rfl (Nat.zero_le _) (by show 1 ≤ 400; decide)).2 (Nat.lt_of_lt_of_le (by decide : 400 < 2 ^ 9) (Nat.pow_le_pow_right (by decide) (show 9 ≤ p + 1 by omega)))
end
/-! ### the last things that the law wants -/
def tRevS (te : TE) : TE := fun σ H Q => te σ H fun x H1 => ∃ w : List Nat, x = .str (wS w) ∧ w.length ≤ 4 ∧ Q (.str (wS w.reverse)) H1
theorem rev_pick : ∀ w : List Nat, w.length ≤ 4 → (⟨((Builtin.Str.strSliceIndices none none (-1) (wS w).length).filterMap ((wS w).cps[·]?)).toArray⟩ : Str) = wS w.reverse
  | [], _ => by
    have e : Builtin.Str.strSliceIndices none none (-1) 0 = [] := by decide +kernel
    show (⟨((Builtin.Str.strSliceIndices none none (-1) 0).filterMap ((wS []).cps[·]?)).toArray⟩ : Str) = _
    rw [e]
    rfl
  | [a], _ => by
    have e : Builtin.Str.strSliceIndices none none (-1) 1 = [0] := by decide +kernel
    show (⟨((Builtin.Str.strSliceIndices none none (-1) 1).filterMap ((wS [a]).cps[·]?)).toArray⟩ : Str) = _
    rw [e]
    rfl
  | [a, b], _ => by
    have e : Builtin.Str.strSliceIndices none none (-1) 2 = [1, 0] := by decide +kernel
    show (⟨((Builtin.Str.strSliceIndices none none (-1) 2).filterMap ((wS [a, b]).cps[·]?)).toArray⟩ : Str) = _
    rw [e]
    rfl
  | [a, b, c], _ => by
    have e : Builtin.Str.strSliceIndices none none (-1) 3 = [2, 1, 0] := by decide +kernel
    show (⟨((Builtin.Str.strSliceIndices none none (-1) 3).filterMap ((wS [a, b, c]).cps[·]?)).toArray⟩ : Str) = _
    rw [e]
    rfl
  | [a, b, c, d], _ => by
    have e : Builtin.Str.strSliceIndices none none (-1) 4 = [3, 2, 1, 0] := by decide +kernel
    show (⟨((Builtin.Str.strSliceIndices none none (-1) 4).filterMap ((wS [a, b, c, d]).cps[·]?)).toArray⟩ : Str) = _
    rw [e]
    rfl
  | _ :: _ :: _ :: _ :: _ :: _, h => by
    simp only [List.length_cons] at h
    omega
section
variable {X : Cx}
theorem pe_revS {e : Expr} {te : TE} {k : Nat} {p1 p2 p3 pos : Pos} (he : PE X e te) : PE X (.Subscript e (.Slice none none (some (.UnaryOp .USub (.Constant (.int 1) k p1) p2)) p3) pos) (tRevS te) := by
  refine ⟨fun pins s σ H Q I h => ?_⟩
  refine Subscript_ (thn (he.run pins s σ H _ I h) fun v s1 ⟨x, H1, I1, r1, q1⟩ => ?_)
  obtain ⟨w, ex, hw, q⟩ := q1
  subst ex
  obtain ⟨t, rfl⟩ := r1
  have hst : L2.PO X (some (.UnaryOp .USub (.Constant (.int 1) k p1) p2)) (tPart (tUn (rU fun i => .int (-i)) (tC (.int 1)))) := po_some (pe_un un_neg pe_int)
  refine wpAny_Slice (thn (po_none.run pins s1 σ H1 (fun o H2 => o = none ∧ H2 = H1) I1 ⟨rfl, rfl⟩) fun vl s2 ⟨l, H2, I2, pl, el, e2⟩ => ?_)
  subst el e2
  refine thn (po_none.run pins s2 σ H2 (fun o H3 => o = none ∧ H3 = H2) I2 ⟨rfl, rfl⟩) fun vu s3 ⟨u, H3, I3, pu, eu, e3⟩ => ?_
  subst eu e3
  refine thn (hst.run pins s3 σ H3 (fun o H4 => o = some (-1) ∧ H4 = H3) I3 ⟨1, rfl, -1, rfl, rfl, rfl⟩) fun vs s4 ⟨o, H4, I4, ps, eo, e4⟩ => ?_
  subst eo e4
  have I5 : L2.Inv X pins σ H4 { s4 with heap := s4.heap.push { cls := .type "slice", data := .fields #[vl, vu, vs] } } := I4.kept (t' := s4.toks) fun b ob q => Heap.get?_push_of_some _ q
  show wpAny (model X.prog X.w) X.A (subscriptTail e (.Slice none none (some (.UnaryOp .USub (.Constant (.int 1) k p1) p2)) p3) (.str (wS w) t) (.ref s4.heap.objs.size)) (EP X pins σ Q) X.xe { s4 with heap := s4.heap.push { cls := .type "slice", data := .fields #[vl, vu, vs] } }
  have hsl := Heap.IsSliceOf.new s4.heap vl vu vs
  obtain ⟨os, hos, hcs, hds⟩ := hsl
  obtain ⟨l', rfl, e2⟩ := IsPart.raw pl
  obtain ⟨u', rfl, e3⟩ := IsPart.raw pu
  obtain ⟨st', rfl, e1⟩ := IsPart.raw ps
  refine tail_any (ops := [.str (wS w) t, .ref s4.heap.objs.size]) (typeIs_str _ _ _) (F.slot_str_getitem.lookup) ?_ (by with_unfolding_all rfl)
  refine wpAny_getItem_str_slice (l := l') (u := u') (st := st') ⟨os, hos, hcs, hds⟩ (by rw [e1]; decide) ?_
  have hm : sliceMade (wS w) t l' u' st' = .str (wS w.reverse) := by
    unfold sliceMade slicePicked
    rw [e1, e2, e3]
    show (if ((-1 : Int) == 1 && _) = true then _ else _) = _
    rw [if_neg (by rw [show ((-1 : Int) == 1) = false from rfl, Bool.false_and]; exact Bool.false_ne_true)]
    show Made.str ⟨((Builtin.Str.strSliceIndices none none (-1) (wS w).length).filterMap ((wS w).cps[·]?)).toArray⟩ = _
    rw [rev_pick w hw]
  rw [hm]
  refine ⟨?_, .str _, H4, I5.tok _, ⟨_, rfl⟩, q⟩
  rw [wS_length, List.length_reverse]
  exact Nat.le_trans hw (by decide)
end
def tCallG (sp : Sp) (n : Nat) (t : TA) : TE := fun σ H Q => t σ H fun vs H1 => vs.length = n ∧ sp vs H1 Q E0
section
variable {X : Cx} {k : Nat} {f : Addr} {fd : FuncData} {sp : Sp} {x : Str} {p pos : Pos} {e : Expr} {es : List Expr} {t : TA} {ps : List Str}
/-- f(e, ..), where nothing is being shown -/
theorem pe_callG (F : GRun X.prog X.w X.K X.mg X.base k f fd ps sp) (hG : X.A.guards = some []) (hr : Room k X.A) (hg : Gl X x) (hm : X.mg x = some (.ref f)) (hk : PySem.W.keepIn X.K (.ref f) = true) (hb : Binds X.K fd ps [])
    (ha : PA X (e :: es) t) (hdb : (x == ("__debug__" : Str)) = false := by decide) (he : starEach (e :: es) X.env = (false, eval e X.env) :: starEach es X.env := by rfl) (hpl : (backTo pos (starEach es X.env)).any (·.1) = false := by rfl) :
    PE X (.Call (.Name x p) (e :: es) [] pos) (tCallG sp ps.length t) := by
  refine ⟨fun pins s σ H Q I h => ?_⟩
  refine wpAny_Call_Name_kw (ld_glob I hg hm ?_ hdb)
  refine PySem.W.callWith_K (h₀ := X.base) I.ok.mod.kin hk (thn (ha.run pos pins s σ H _ I h) fun us s1 ⟨vs, H1, I1, r, hl, q⟩ => ⟨I1.kIn, ?_⟩) he hpl
  have bd := hb s1 us I1.kIn (by rw [List.append_nil, ← r.length]; exact hl)
  rw [List.append_nil] at bd
  refine wpAny_call (codeAny_mono (F X.A X.stack s1 H1 us vs Q hG hr I1.env0 bd r hl q) fun r s' hq => ?_)
  cases r with
  | error e => exact hq.elim
  | ok fl =>
    cases fl with
    | ret u => exact I1.after hq
    | next => exact False.elim hq
    | brk => exact False.elim hq
    | cont => exact False.elim hq
end
/-! ### machines shown -/
theorem nodes_flat {α : Type} {f : α → PyData} {m : Nat} : ∀ {xs : List α}, (∀ x ∈ xs, nodes (f x) ≤ m) → nodesAll (xs.map f) ≤ m * xs.length
  | [], _ => by
    rw [List.map_nil, nodesAll_nil]
    exact Nat.zero_le _
  | x :: xs, h => by
    have h1 := h x List.mem_cons_self
    have h2 := nodes_flat (xs := xs) fun y hy => h y (List.mem_cons_of_mem _ hy)
    rw [List.map_cons, nodesAll_cons, List.length_cons, Nat.mul_add, Nat.mul_one]
    omega
section
variable {L : Nat} {rs : Rows} {es : List Bool}
theorem mach_nodes (M : MOk L rs es) : nodes (machDt L rs es) ≤ 2010 := by
  have L3 := M.L3
  have l4 := M.l400
  have h1 : nodesAll (rs.map rowDt) ≤ 4 * rs.length := nodes_flat fun row hrow => by
    unfold rowDt
    rw [nodes_tup]
    have h2 : nodesAll (row.map oD) ≤ 1 * row.length := nodes_flat fun o _ => by
      cases o with
      | none => exact Nat.le_refl _
      | some k => exact Nat.le_refl _
    have := M.row row hrow
    omega
  have h3 : nodesAll (es.map PyData.bool) ≤ 1 * es.length := nodes_flat fun b _ => Nat.le_refl _
  have := M.es
  unfold machDt
  rw [nodes_tup, nodesAll_cons, nodesAll_cons, nodesAll_cons, nodesAll_nil, nodes_tup, nodes_tup, show nodes (.int (L : Int)) = 1 from rfl]
  omega
theorem mach_sm (M : MOk L rs es) : sm (machDt L rs es) = true := by
  have L3 := M.L3
  have l4 := M.l400
  have nat_ : ∀ k : Nat, k ≤ 400 → sm (.int (k : Int)) = true := fun k hk => by
    rw [sm, decide_eq_true_eq, Int.natAbs_natCast]
    exact Nat.le_trans hk (by decide)
  unfold machDt
  rw [sm_tup]
  intro x hx
  rcases List.mem_cons.mp hx with z | hx
  · rw [z]
    exact nat_ L (by omega)
  rcases List.mem_cons.mp hx with z | hx
  · rw [z, sm_tup]
    intro y hy
    obtain ⟨row, hrow, rfl⟩ := List.mem_map.mp hy
    unfold rowDt
    rw [sm_tup]
    intro d hd
    obtain ⟨o, ho, rfl⟩ := List.mem_map.mp hd
    cases o with
    | none => rfl
    | some t =>
      have := M.tgt row hrow t ho
      exact nat_ t (by omega)
  · rw [List.mem_singleton.mp hx, sm_tup]
    intro y hy
    obtain ⟨b, _, rfl⟩ := List.mem_map.mp hy
    rfl
theorem mach_depth : (machDt L rs es).depth ≤ 3 := by
  unfold machDt
  rw [depth_tup]
  refine Nat.succ_le_succ (depthAll_le.mpr fun x hx => ?_)
  rcases List.mem_cons.mp hx with z | hx
  · rw [z]
    exact Nat.zero_le _
  rcases List.mem_cons.mp hx with z | hx
  · rw [z, depth_tup]
    refine Nat.succ_le_succ (depthAll_le.mpr fun y hy => ?_)
    obtain ⟨row, hrow, rfl⟩ := List.mem_map.mp hy
    unfold rowDt
    rw [depth_tup]
    refine Nat.succ_le_succ (depthAll_le.mpr fun d hd => ?_)
    obtain ⟨o, ho, rfl⟩ := List.mem_map.mp hd
    cases o <;> exact Nat.le_refl _
  · rw [List.mem_singleton.mp hx, depth_tup]
    refine Nat.succ_le_succ (depthAll_le.mpr fun y hy => ?_)
    obtain ⟨b, _, rfl⟩ := List.mem_map.mp hy
    exact Nat.zero_le _
/-- two machines in a list, shown -/
theorem two_show {L' : Nat} {rs' : Rows} {es' : List Bool} (M : MOk L rs es) (M' : MOk L' rs' es') : (PyData.list [machDt L rs es, machDt L' rs' es']).showable = true ∧ (PyData.list [machDt L rs es, machDt L' rs' es']).depth ≤ 60 ∧ (PyData.list [machDt L rs es, machDt L' rs' es']).shown.length ≤ sizeLine := by
  have hs : sm (PyData.list [machDt L rs es, machDt L' rs' es']) = true := by
    rw [sm_lst]
    intro x hx
    rcases List.mem_cons.mp hx with z | hx
    · rw [z]
      exact mach_sm M
    · rw [List.mem_singleton.mp hx]
      exact mach_sm M'
  refine ⟨sm_show _ hs, ?_, sm_fits hs ?_⟩
  · rw [depth_lst]
    refine Nat.succ_le_of_lt (Nat.lt_of_le_of_lt (depthAll_le (n := 3) |>.mpr fun x hx => ?_) (by decide))
    rcases List.mem_cons.mp hx with z | hx
    · rw [z]
      exact mach_depth
    · rw [List.mem_singleton.mp hx]
      exact mach_depth
  · have h1 := mach_nodes M
    have h2 := mach_nodes M'
    rw [nodes_lst, nodesAll_cons, nodesAll_cons, nodesAll_nil]
    omega
theorem one_show (M : MOk L rs es) : (machDt L rs es).showable = true ∧ (machDt L rs es).depth ≤ 60 ∧ (machDt L rs es).shown.length ≤ sizeLine :=
  ⟨sm_show _ (mach_sm M), Nat.le_trans mach_depth (by decide), sm_fits (mach_sm M) (Nat.le_trans (mach_nodes M) (by decide))⟩
end
theorem deck_tb {a c : Addr} {cells : List Int} {n : Int} {H : Hp} (dk : DeckAt a c cells n H) : TB (Bd a c) H := fun b z => by
  rcases z with z | z
  · rw [z, dk.2.1]
    exact fun y => by cases y
  · rw [z, dk.2.2.1]
    exact fun y => by cases y
/-! what stays where only tables of code objects grow -/
section
open NdefX LamX
theorem rd_ext {H H' : Hp} (e : ExtN H H') {a : Addr} {u : HO} (nt : ∀ ps, u ≠ .tbl ps) (h : Rd H a u) : Rd H' a u := by
  rcases h with h | ⟨ob, h⟩
  · exact .inl (e _ _ h nt)
  · exact .inr ⟨ob, e _ _ h (fun _ z => nomatch z)⟩
mutual
theorem Dt.extN {B : Addr → Prop} {K : PySem.W.Frag} {H H' : Hp} (k : ExtN H H') : ∀ (d : PyData) (v : V), Dt B K H v d → Dt B K H' v d
  | .none, _, h => by cases h; exact .non
  | .bool _, _, h => by cases h; exact .bl _
  | .int _, _, h => by cases h; exact .int _
  | .str _, _, h => by cases h; exact .str _
  | .list ds, _, h => by
    cases h with
    | lst nb ne hs ha => exact .lst nb ne (rd_ext k (fun _ z => nomatch z) hs) (DtAll.extN k ds _ ha)
  | .tuple ds, _, h => by
    cases h with
    | tup nb hs ha => exact .tup nb (rd_ext k (fun _ z => nomatch z) hs) (DtAll.extN k ds _ ha)
  | .dict _, _, h => by
    cases h with
    | emp nb h => exact .emp nb (k _ _ h (fun _ z => nomatch z))
theorem DtAll.extN {B : Addr → Prop} {K : PySem.W.Frag} {H H' : Hp} (k : ExtN H H') : ∀ (ds : List PyData) (vs : List V), DtAll B K H vs ds → DtAll B K H' vs ds
  | [], _, h => by cases h; exact .nil
  | d :: ds, _, h => by
    cases h with
    | cons h1 h2 => exact .cons (Dt.extN k d _ h1) (DtAll.extN k ds _ h2)
end
theorem lst_ext {H H' : Hp} (k : ExtN H H') {a : Addr} {xs : List V} (h : H a = some (.lst xs)) : H' a = some (.lst xs) := k _ _ h (fun _ z => nomatch z)
theorem deck_ext {a c : Addr} {cells : List Int} {n : Int} {H H' : Hp} (k : ExtN H H') (h : DeckAt a c cells n H) : DeckAt a c cells n H' := ⟨h.1, lst_ext k h.2.1, lst_ext k h.2.2.1, h.2.2.2.1, h.2.2.2.2⟩
theorem tb_ext {B : Addr → Prop} {H H' : Hp} (k : ExtN H H') (h : ∀ b, B b → ∃ o, H b = some o ∧ ∀ ps, o ≠ .tbl ps) : TB B H' := fun b hb e => by
  obtain ⟨o, h1, h2⟩ := h b hb
  rw [k _ _ h1 h2] at e
  cases e
/-- a table stays while the deck is drawn from -/
theorem tab_deck {a c P : Addr} {nm : Nat → Nat → Str} {cells : List Int} {n : Int} {H H' : Hp} (dk : DeckAt a c cells n H) (k : Keep (Bd a c) H H') (t : TabN H P nm) : TabN H' P nm := by
  obtain ⟨ps, h1, h2, h3⟩ := t
  have off : ∀ {b : Addr} {o : HO}, H b = some o → (∀ xs, o ≠ .lst xs) → ¬ Bd a c b := fun e nl => bd_ne e nl dk.2.1 dk.2.2.1
  refine ⟨ps, k _ _ (off h1 (fun _ z => nomatch z)) h1, h2, fun pos cv hc => ?_⟩
  obtain ⟨c', e1, e2⟩ := h3 pos cv hc
  exact ⟨c', e1, k _ _ (off e2 (fun xs z => nomatch z)) e2⟩
end
/-! words repeated, and what is shown -/
section
variable {X : Cx}
theorem op_strRep : OpR X (binaryOp .Mult) (fun x y H Q => ∃ z k, x = .str z ∧ y = .int k ∧ MulOk z k ∧ Q (.str (Txt.mul z k)) H) := by
  intro pins s σ H x y v u Q I rx ry h
  obtain ⟨z, k, rfl, rfl, hm, q⟩ := h
  obtain ⟨t, rfl⟩ := rx
  obtain ⟨t', rfl⟩ := ry
  exact SB.mul hm (fun t' tk => ⟨.str (Txt.mul z k), H, I.tok _, ⟨_, rfl⟩, q⟩)
end
theorem mul_a {m : Nat} {i : Int} (h : i = (m : Int)) : Txt.mul "a" i = txR (List.replicate m 0) := by
  subst h
  have e : ("a" : Str) = ⟨#[97]⟩ := by decide +kernel
  have h1 := mul_one_list 97 (m : Int)
  refine TL.ext_tl ?_
  show (Txt.mul "a" (m : Int)).cps.toList = (mkS ((List.replicate m 0).reverse.map (97 + ·))).cps.toList
  rw [e, h1, Int.toNat_natCast, List.reverse_replicate]
  show _ = (List.replicate m 0).map (97 + ·)
  rw [List.map_replicate]
theorem mulok_a {m : Nat} {i : Int} (h : i = (m : Int)) (hm : m ≤ 1000) : MulOk "a" i := by
  have l1 : ("a" : Str).length = 1 := by decide +kernel
  refine ⟨?_, fun h1 _ => ?_, fun h1 _ => ?_⟩
  · rw [Bool.or_eq_false_iff, decide_eq_false_iff_not, decide_eq_false_iff_not]
    have e : (2 : Int) ^ 63 = 9223372036854775808 := by decide
    omega
  · rw [l1]
    have e : (2 : Int) ^ 63 = 9223372036854775808 := by decide
    have : (2 ^ 63 - 1) / i ≥ (2 ^ 63 - 1) / 1000 := by
      have hi : 1 ≤ i := by omega
      refine (Int.le_ediv_iff_mul_le (by omega)).mpr ?_
      have : (2 ^ 63 - 1 : Int) / 1000 * i ≤ (2 ^ 63 - 1 : Int) / 1000 * 1000 := Int.mul_le_mul_of_nonneg_left (by omega) (by decide)
      refine Int.le_trans this (by decide)
    have e2 : ((2 : Int) ^ 63 - 1) / 1000 = 9223372036854775 := by decide
    omega
  · rw [l1]
    exact decide_eq_false (by
      have : sizeLine = 16777216 := sizeLine_eq
      omega)
def txD : Option (List Nat) → PyData
  | none => .none
  | some u => .str (txR u)
theorem tx_dt {B : Addr → Prop} {K : PySem.W.Frag} {H : Hp} (o : Option (List Nat)) : Dt B K H (txO o) (txD o) := by
  cases o with
  | none => exact .non
  | some u => exact .str _
theorem tx_show {L : Nat} {o : Option (List Nat)} (L3 : L ≤ 3) (h : ∀ u, o = some u → Wl L u ∧ u.length ≤ 160801) : (txD o).showable = true ∧ (txD o).depth ≤ 3 ∧ (txD o).shown.length ≤ 2000000 := by
  cases o with
  | none => exact ⟨rfl, by decide, by decide +kernel⟩
  | some u =>
    obtain ⟨hw, hl⟩ := h u rfl
    refine ⟨rfl, by show (PyData.str (txR u)).depth ≤ 3; simp [PyData.depth], ?_⟩
    have hs : (PyData.str (txR u)).leavesShort 8 = true := by
      show ((txR u).cps.toList.all fun c => decide (c < 16 ^ 8)) = true
      rw [List.all_eq_true]
      intro c hc
      have hc : c ∈ u.reverse.map (97 + ·) := hc
      obtain ⟨d, hd, rfl⟩ := List.mem_map.mp hc
      have := hw d (List.mem_reverse.mp hd)
      exact decide_eq_true (by
        have : (16 : Nat) ^ 8 = 4294967296 := by decide
        omega)
    have := PyData.shown_le 8 (Nat.le_refl _) (.str (txR u)) hs
    have w : (PyData.str (txR u)).weight = u.length := by
      show (txR u).cps.size = _
      exact txR_len u
    rw [w] at this
    show (PyData.str (txR u)).shown.length ≤ 2000000
    omega
theorem list_show {xs : List PyData} (h : ∀ x ∈ xs, x.showable = true ∧ x.depth ≤ 3 ∧ x.shown.length ≤ 2000000) (hl : xs.length ≤ 5) : (PyData.list xs).showable = true ∧ (PyData.list xs).depth ≤ 60 ∧ (PyData.list xs).shown.length ≤ sizeLine := by
  refine ⟨?_, ?_, ?_⟩
  · show PyData.showableAll xs = true
    clear hl
    induction xs with
    | nil => rfl
    | cons x xs ih =>
      show (x.showable && PyData.showableAll xs) = true
      rw [(h x List.mem_cons_self).1, ih fun y hy => h y (List.mem_cons_of_mem _ hy)]
      rfl
  · rw [depth_lst]
    have := depthAll_le.mpr fun x hx => (h x hx).2.1
    omega
  · show (listText (PyData.shownAll xs)).length ≤ sizeLine
    have h1 := listText_len_le (PyData.shownAll xs)
    have key : ∀ xs : List PyData, (∀ x ∈ xs, x.shown.length ≤ 2000000) → ((PyData.shownAll xs).map (·.length)).sum ≤ 2000000 * xs.length ∧ (PyData.shownAll xs).length = xs.length := by
      intro xs
      induction xs with
      | nil => intro _; exact ⟨Nat.zero_le _, rfl⟩
      | cons x xs ih =>
        intro hx
        obtain ⟨a, b⟩ := ih fun y hy => hx y (List.mem_cons_of_mem _ hy)
        have := hx x List.mem_cons_self
        refine ⟨?_, congrArg (· + 1) b⟩
        show x.shown.length + ((PyData.shownAll xs).map (·.length)).sum ≤ 2000000 * (xs.length + 1)
        omega
    obtain ⟨a, b⟩ := key xs fun x hx => (h x hx).2.2
    rw [sizeLine_eq]
    omega
theorem mach_show {L : Nat} {rs : Rows} {es : List Bool} (M : MOk L rs es) : (machDt L rs es).showable = true ∧ (machDt L rs es).depth ≤ 3 ∧ (machDt L rs es).shown.length ≤ 2000000 := by
  have h1 := sm_len _ (mach_sm M)
  have h2 := mach_nodes M
  exact ⟨sm_show _ (mach_sm M), mach_depth, by omega⟩
/-! ### long rows and rings, right -/
section
open NdefX LamX
variable {P : Program} {w : World} {K : PySem.W.Frag} {mg : Str → Option Value} {base : Heap}
theorem scLongR : FnScope ["_law_deck_here", "_law_many", "_law_row", "_law_ring", "_law_none", "_law_found"] ["_law_deck_here"] (defScope sLongR) := ⟨rfl, rfl, rfl, by decide +kernel, rfl, by decide +kernel, by decide +kernel⟩
def spLongR (Pt : Addr) : Sp := fun vs H Q _ => ∃ (a c : Addr) (cells : List Int) (n : Int), vs = [.ref a] ∧ DeckAt a c cells n H ∧ 0 ≤ n ∧ n ≤ 100000 ∧ TabN H Pt nmA ∧
  ∀ (H' : Hp) (cells' : List Int) (n' : Int), DeckAt a c cells' n' H' → n ≤ n' → n' ≤ n + 10 → TabN H' Pt nmA → Q (.bl true) H'
theorem ok_longR {f fDR fON fLG fAP fBK CG Pt : Addr} {fd fdDR fdON fdLG fdAP fdBK : FuncData} (F : Fun K "_law_long_right" "_law_long_right" sLongR f fd)
    (DR : FnOk P w K mg base CX0 1 fDR fdDR ["_law_deck_here", "_law_many"] spDraw) (FDR : Fun K "_law_draw" "_law_draw" sDraw fDR fdDR) (bDR : Binds K fdDR ["_law_deck_here", "_law_many"] []) (gDR : mg "_law_draw" = some (.ref fDR))
    (ON : FnOk P w K mg base CX0 2 fON fdON ["_law_deck_here", "_law_items"] (spOne K)) (FON : Fun K "_law_one" "_law_one" sOne fON fdON) (bON : Binds K fdON ["_law_deck_here", "_law_items"] []) (gON : mg "_law_one" = some (.ref fON))
    (LG : FnOk P w K mg base CX0 1 fLG fdLG ["_law_many", "_law_is_ring"] (spLong K)) (FLG : Fun K "_law_long" "_law_long" sLong fLG fdLG) (bLG : Binds K fdLG ["_law_many", "_law_is_ring"] []) (gLG : mg "_law_long" = some (.ref fLG))
    (AP : FnOk P w K mg base CX0 3 fAP fdAP ["one", "other"] (spApartP K Pt)) (FAP : PySem.W.keepIn K (.ref fAP) = true) (bAP : Binds K fdAP ["one", "other"] []) (gAP : mg "apart" = some (.ref fAP))
    (BK : FnOk P w K mg base (L2.CX P w) 2 fBK fdBK ["machine"] (spBack K CG)) (FBK : Fun K "backwards" "backwards" sBack fBK fdBK) (bBK : Binds K fdBK ["machine"] []) (gBK : mg "backwards" = some (.ref fBK)) (T : Mg mg) : GRun P w K mg base 4 f fd ["_law_deck_here"] (spLongR Pt) := by
  refine grun F scLongR (fun cdv A outer s H vs Q hG0 hr h => ?_)
  obtain ⟨a, c, cells, n, rfl, dk, n0, n9, tb, k⟩ := h
  have hG : (A.deeper (envOfC "_law_long_right" (defScope sLongR) s.heap.objs.size f cdv)).guards = some [] := hG0
  have hu := hr.units
  have hu0 := hr.units0
  refine ⟨_, (pss_cons (ps_set (i := 1) scLongR.nd rfl (.inl rfl) (pe_call ON (hr.mono (by decide)) (by rfl) gON FON.kp bON .nil pass0 (pa_cons (pv 0) (pa_cons (pe_lstA (pa_cons pe_int (pa_cons pe_int (pa_cons (pe_op op_add pe_int (pe_call DR (hr.mono (by decide)) (by rfl) gDR FDR.kp bDR .nil pass0 (pa_cons (pv 0) (pa_cons pe_int pa_nil)))) pa_nil)))) pa_nil))))
      (pss_cons (ps_par (i := 2) (j := 3) rfl scLongR.nd rfl rfl (by decide) rfl rfl (pa_cons (pe_call LG (hr.mono (by decide)) (by rfl) gLG FLG.kp bLG .nil pass0 (pa_cons (pv 1) (pa_cons pe_bl pa_nil))) (pa_cons (pe_call LG (hr.mono (by decide)) (by rfl) gLG FLG.kp bLG .nil pass0 (pa_cons (pv 1) (pa_cons pe_bl pa_nil))) pa_nil)) (by rfl))
      (pss_cons (ps_set (i := 4) scLongR.nd rfl (.inl rfl) (pe_tup (pa_cons pe_int (pa_cons (pe_ix (r := rIxT K) ix_tup (pv 2) pe_int (fun _ _ => rfl)) (pa_cons (pe_op op_repS (pe_tup (pa_cons pe_bl pa_nil)) (pv 1)) pa_nil)))))
      (pss_cons (ps_set (i := 5) scLongR.nd rfl (.inl rfl) (pe_lstA (pa_cons (pe_call AP (hr.mono (by decide)) (by rfl) gAP FAP bAP .nil pass0 (pa_cons (pv 2) (pa_cons (pv 4) pa_nil))) (pa_cons (pe_call AP (hr.mono (by decide)) (by rfl) gAP FAP bAP .nil pass0 (pa_cons (pv 2) (pa_cons (pv 3) pa_nil))) (pa_cons (pe_call AP (hr.mono (by decide)) (by rfl) gAP FAP bAP .nil pass0 (pa_cons (pv 3) (pa_cons (pv 3) pa_nil))) (pa_cons (pe_call BK (hr.mono (by decide)) (by rfl) gBK FBK.kp bBK .nil passL (pa_cons (pv 2) pa_nil)) (pa_cons (pe_call BK (hr.mono (by decide)) (by rfl) gBK FBK.kp bBK .nil passL (pa_cons (pv 3) pa_nil)) pa_nil)))))))
      (pss_one (ps_ret (pe_cmpR op_eq (pe_callB (call_reprD hG hu) (by rfl) T.repr (by decide +kernel) (pa_cons (pv 5) pa_nil)) (pe_callB (call_reprD hG hu) (by rfl) T.repr (by decide +kernel) (pa_cons (pe_lstA (pa_cons (pe_op op_strRep pe_str (pe_op op_sub (pv 1) pe_int)) (pa_cons (pe_op op_strRep pe_str (pe_op op_sub (pe_op op_mul pe_int (pv 1)) pe_int)) (pa_cons pe_non (pa_cons (pv 2) (pa_cons (pv 3) pa_nil)))))) pa_nil)) (nomark _)))))))), ?_⟩
  refine ⟨_, rfl, _, rfl, a, c, cells, n, 399, rfl, dk, by decide, by decide, n0, by omega, fun H1 cells1 r r0 r1 dk1 k1 => ?_⟩
  have tb1 := tab_deck dk k1 tb
  refine ⟨_, _, rfl, rfl, by show 3 ≤ sizeLine; decide, fun l H2 s2 l0 _ hl => ?_⟩
  have dk2 := deck_same s2 dk1
  have tb2 := tb1.ext s2
  refine ⟨a, c, l, cells1, n + 1, _, rfl, dk2, by omega, by omega, SqL.of hl, deck_off dk1 l0, List.cons_ne_nil _ _, by show 3 ≤ 1000; decide, fun H3 cells3 x hx dk3 k3 => ?_⟩
  have tb3 := tab_deck dk2 k3 tb2
  obtain ⟨N, eN, N2, N4⟩ : ∃ N : Nat, x = .int (N : Int) ∧ 2 ≤ N ∧ N ≤ 400 := by
    rcases List.mem_cons.mp hx with z | hx
    · exact ⟨400, z, by decide, by decide⟩
    rcases List.mem_cons.mp hx with z | hx
    · exact ⟨399, z, by decide, by decide⟩
    · refine ⟨(2 + r).toNat, ?_, by omega, by omega⟩
      rw [List.mem_singleton.mp hx, Int.toNat_of_nonneg (by omega)]
  subst eN
  have Mr := mok_long (ring := false) N2 (by omega)
  have Mg_ := mok_long (ring := true) N2 (by omega)
  have Mn := mok_none N2 N4
  refine ⟨_, rfl, N, false, rfl, N2, by omega, fun H4 vr s4 hr4 => ?_⟩
  refine ⟨_, rfl, N, true, rfl, N2, by omega, fun H5 vg s5 hg5 => ⟨_, _, rfl, ?_⟩⟩
  have dk4 := deck_same s4 dk3
  have dk5 := deck_same s5 dk4
  have tb5 := tb3.ext (s4.trans s5)
  have hrow := same_dt s5 (hr4 (Bd a c) (deck_tb dk3))
  have hrng := hg5 (Bd a c) (deck_tb dk4)
  clear hr4 hg5 hx hl
  obtain ⟨mr, prr, per, rvr, rfl, nmr, npr, ner, Ar, drr, der, dar⟩ := dt_parts hrow
  -- the row without ends
  refine ⟨_, rfl, mr, _, 1, _, rfl, rfl, .inl Ar.hm, atI_nat (j := 1) rfl, by show 1 ≤ sizeLine; decide, fun f1 nf1 => ?_⟩
  have s6 := same_new (o := .tup [.bl false]) nf1
  refine ⟨_, rfl, f1, (N : Int), _, rfl, rfl, .inl upd_same, List.cons_ne_nil _ _, by omega, by omega, by show 1 ≤ 1000; decide, fun q H7 s7 hq wq => ?_⟩
  rw [show (List.replicate ((N : Int)).toNat [V.bl false]).flatten = (List.replicate N false).map V.bl by rw [Int.toNat_natCast]; simp] at hq
  have nq := nb_of (tb_same s6 (deck_tb dk5)) (tb_off (deck_tb dk5) nf1) wq
  have s57 := s6.trans s7
  clear wq
  refine ⟨by show 3 ≤ sizeLine; decide, fun z nz => ?_⟩
  have s8 := same_new (o := .tup [.int 1, .ref prr, .ref q]) nz
  have s58 := s57.trans s8
  have hnon : Dt (Bd a c) K (upd H7 z (.tup [.int 1, .ref prr, .ref q])) (.ref z) (machDt 1 (rsLong N false) (List.replicate N false)) :=
    .tup (tb_off (tb_same s57 (deck_tb dk5)) nz) (.inl upd_same) (.cons (.int _) (.cons (same_dt s58 drr) (.cons (.tup nq (same_rd s8 hq) (dt_cs (fun x => Dt.bl x) _)) .nil)))
  have hrow8 := same_dt s58 hrow
  have hrng8 := same_dt s58 hrng
  have dk8 := deck_same s58 dk5
  have tb8 := tb5.ext s58
  clear nz s8 hq s57 s7 s6 nf1 nq
  generalize upd H7 z (.tup [.int 1, .ref prr, .ref q]) = H8 at *
  -- apart
  refine ⟨_, rfl, _, rfl, 1, _, _, _, _, _, _, Bd a c, Bd a c, rfl, hrow8, hnon, Mr, Mn, tb8, fun H9 o1 x9 tb9 f1' => ?_⟩
  obtain rfl := first_eq f1' (first_none N2 N4)
  have hrow9 := Dt.extN x9 _ _ hrow8
  have hrng9 := Dt.extN x9 _ _ hrng8
  have dk9 := deck_ext x9 dk8
  refine ⟨_, rfl, _, rfl, 1, _, _, _, _, _, _, Bd a c, Bd a c, rfl, hrow9, hrng9, Mr, Mg_, tb9, fun H10 o2 x10 tb10 f2 => ?_⟩
  obtain rfl := first_eq f2 (first_ring N2 N4)
  have hrow10 := Dt.extN x10 _ _ hrow9
  have hrng10 := Dt.extN x10 _ _ hrng9
  have dk10 := deck_ext x10 dk9
  refine ⟨_, rfl, _, rfl, 1, _, _, _, _, _, _, Bd a c, Bd a c, rfl, hrng10, hrng10, Mg_, Mg_, tb10, fun H11 o3 x11 tb11 f3 => ?_⟩
  obtain rfl := first_eq f3 (first_same Mg_)
  have hrow11 := Dt.extN x11 _ _ hrow10
  have hrng11 := Dt.extN x11 _ _ hrng10
  have dk11 := deck_ext x11 dk10
  -- backwards
  refine ⟨_, rfl, 1, _, _, _, Bd a c, rfl, hrow11, Mr, deck_tb dk11, fun ord O => ⟨fun sets done hb H12 v1 s12 hv1 => ?_, fun hb => ?_⟩⟩
  case refine_2 =>
    obtain ⟨r', hr'⟩ := long_few N2 N4 O
    rw [hr'] at hb
    cases hb
  obtain ⟨S1, R1⟩ := back_made Mr O hb
  obtain ⟨e1, e2⟩ := long_back (lng_of N2) S1 R1
  rw [e1, e2] at hv1
  clear hb S1 R1 e1 e2
  have hrow12 := same_dt s12 hrow11
  have hrng12 := same_dt s12 hrng11
  have dk12 := deck_same s12 dk11
  refine ⟨_, rfl, 1, _, _, _, Bd a c, rfl, hrng12, Mg_, deck_tb dk12, fun ord O => ⟨fun sets done hb H13 v2 s13 hv2 => ?_, fun hb => ?_⟩⟩
  case refine_2 =>
    obtain ⟨r', hr'⟩ := long_few N2 N4 O
    rw [hr'] at hb
    cases hb
  obtain ⟨S1, R1⟩ := back_made Mg_ O hb
  obtain ⟨e1, e2⟩ := long_back (lng_of N2) S1 R1
  rw [e1, e2] at hv2
  clear hb S1 R1 e1 e2
  have hrow13 := same_dt s13 hrow12
  have hrng13 := same_dt s13 hrng12
  have hv13 := same_dt s13 hv1
  have dk13 := deck_same s13 dk12
  have tb13 := tb11.ext (s12.trans s13)
  refine ⟨by show 5 ≤ sizeLine; decide, fun l1 H14 s14 l10 ns1 hl1 => ?_⟩
  have dk14 := deck_same s14 dk13
  have w1 : ∀ {m : Nat}, m ≤ 1000 → ∀ u, some (List.replicate m 0) = some u → Wl 1 u ∧ u.length ≤ 160801 := fun {m} hm u e => by
    cases e
    exact ⟨fun x hx => by rw [(List.mem_replicate.mp hx).2]; decide, by rw [List.length_replicate]; omega⟩
  have shw := list_show (xs := [txD (some (List.replicate (N - 1) 0)), txD (some (List.replicate (2 * N - 1) 0)), txD none, machDt 1 (rsLong N false) (esLong N), machDt 1 (rsLong N true) (esLong N)]) (fun x hx => by
    rcases List.mem_cons.mp hx with z | hx
    · rw [z]
      exact tx_show (L := 1) (by decide) (w1 (by omega))
    rcases List.mem_cons.mp hx with z | hx
    · rw [z]
      exact tx_show (L := 1) (by decide) (w1 (by omega))
    rcases List.mem_cons.mp hx with z | hx
    · rw [z]
      exact tx_show (L := 1) (by decide) (fun u e => by cases e)
    rcases List.mem_cons.mp hx with z | hx
    · rw [z]
      exact mach_show Mr
    · rw [List.mem_singleton.mp hx]
      exact mach_show Mg_) (by show 5 ≤ 5; decide)
  obtain ⟨h1, h2, h3⟩ := shw
  refine ⟨_, rfl, _, .list [txD (some (List.replicate (N - 1) 0)), txD (some (List.replicate (2 * N - 1) 0)), txD none, machDt 1 (rsLong N false) (esLong N), machDt 1 (rsLong N true) (esLong N)], Bd a c, rfl, .lst (deck_off dk13 l10) ns1 (.inl hl1) (.cons (tx_dt _) (.cons (tx_dt _) (.cons (tx_dt none) (.cons (same_dt s14 hv13) (.cons (same_dt s14 hv2) .nil))))), h1, h2, h3, ?_⟩
  have hrow14 := same_dt s14 hrow13
  have hrng14 := same_dt s14 hrng13
  refine ⟨_, rfl, _, _, rfl, rfl, "a", (N : Int) - 1, rfl, rfl, mulok_a (m := N - 1) (by omega) (by omega), ?_⟩
  rw [mul_a (m := N - 1) (i := (N : Int) - 1) (by omega)]
  refine ⟨_, rfl, _, _, rfl, rfl, .inl ⟨by decide, by decide⟩, _, _, rfl, rfl, "a", 2 * (N : Int) - 1, rfl, rfl, mulok_a (m := 2 * N - 1) (by omega) (by omega), ?_⟩
  rw [mul_a (m := 2 * N - 1) (i := 2 * (N : Int) - 1) (by omega)]
  refine ⟨_, rfl, _, rfl, by show 5 ≤ sizeLine; decide, fun l2 H15 s15 l20 ns2 hl2 => ?_⟩
  refine ⟨_, .list [txD (some (List.replicate (N - 1) 0)), txD (some (List.replicate (2 * N - 1) 0)), txD none, machDt 1 (rsLong N false) (esLong N), machDt 1 (rsLong N true) (esLong N)], Bd a c, rfl, .lst (deck_off dk14 l20) ns2 (.inl hl2) (.cons (tx_dt (some (List.replicate (N - 1) 0))) (.cons (tx_dt (some (List.replicate (2 * N - 1) 0))) (.cons (tx_dt none) (.cons (same_dt s15 hrow14) (.cons (same_dt s15 hrng14) .nil))))), h1, h2, h3, ?_⟩
  generalize (PyData.list [txD (some (List.replicate (N - 1) 0)), txD (some (List.replicate (2 * N - 1) 0)), txD none, machDt 1 (rsLong N false) (esLong N), machDt 1 (rsLong N true) (esLong N)]).shown = S1
  refine ⟨rfl, ?_⟩
  rw [show decide (V.str S1 = V.str S1) = true from decide_eq_true rfl]
  exact k H15 cells3 (n + 1 + 1) (deck_same s15 dk14) (by omega) (by omega) (tb13.ext (s14.trans s15))
end
/-! ### the law -/
theorem bRun_len {W : List (List Nat)} : ∀ (f : Nat) (sets : List Nat) (done : Rws) {s' : List Nat} {d' : Rws}, sets.length ≤ 400 → bRun W f sets done = some (s', d') → s'.length ≤ 400
  | 0, _, _, _, _, _, e => by cases e
  | f + 1, sets, done, s', d', h, e => by
    unfold bRun at e
    cases hh : sets[done.length]? with
    | none =>
      rw [hh] at e
      cases e
      exact h
    | some held =>
      rw [hh] at e
      have e : (if 400 < (bRow W held sets).1.length then none else bRun W f (bRow W held sets).1 (done ++ [(bRow W held sets).2])) = some (s', d') := e
      by_cases z : 400 < (bRow W held sets).1.length
      · rw [if_pos z] at e
        cases e
      · rw [if_neg z] at e
        exact bRun_len f _ _ (Nat.le_of_not_lt z) e
theorem back_mok {rs : Rows} {es : List Bool} {L : Nat} {ord sets : List Nat} {done : Rws} (M : MOk L rs es) (O : IsOrd rs ord) (h : bRun (waysN L rs ord) 401 [startN es ord] [] = some (sets, done)) : MOk L done (endsN sets) := by
  obtain ⟨S, _⟩ := back_made M O h
  obtain ⟨_, hl, _⟩ := BI.run_ (fun c x hc => joined_lt M O hc) (start_lt O) ways_len 401 [startN es ord] [] (bi_start (start_lt O)) h
  have l4 := bRun_len 401 _ _ (by show 1 ≤ 400; decide) h
  have el := smallest_len S
  rcases S with ⟨ps, C⟩ | ⟨_, e1, _⟩
  · have lo := C.lo
    have l0 := (List.getElem?_eq_some_iff.mp C.zero).1
    refine ⟨by omega, by omega, C.wide, fun row hr t ht => ?_, el, M.L1, M.L3⟩
    obtain ⟨i, hi⟩ := List.mem_iff_getElem?.mp hr
    obtain ⟨c, hc⟩ := row_mem ht
    have il := (List.getElem?_eq_some_iff.mp hi).1
    have e : nx done i c = some t := by rw [nx_get hi]; exact hc
    obtain ⟨_, q, _, hq, _⟩ := C.some_ i _ c t (List.getElem?_eq_getElem (show i < ps.length by omega)) e
    have := (List.getElem?_eq_some_iff.mp hq).1
    omega
  · rw [e1] at el ⊢
    refine ⟨Nat.le_refl _, by show 1 ≤ 400; decide, fun row hr => ?_, fun row hr t ht => ?_, el, M.L1, M.L3⟩
    · rw [List.mem_singleton.mp hr, List.length_replicate]
    · rw [List.mem_singleton.mp hr] at ht
      have := (List.mem_replicate.mp ht).2
      cases this
/-- the machine from behind is the law's -/
theorem back_due {rs : Rows} {es : List Bool} {L : Nat} {ord sets : List Nat} {done trs out : Rws} {tes oe : List Bool} (M : MOk L rs es) (O : IsOrd rs ord) (h : bRun (waysN L rs ord) 401 [startN es ord] [] = some (sets, done)) (RV : RevOf rs es trs tes) (SM : Smallest trs tes L out oe) : done = out ∧ endsN sets = oe := by
  obtain ⟨S, R⟩ := back_made M O h
  exact smallest_eq S SM fun w => (R w).trans (RV w).symm
theorem ord_few {rs : Rows} {es : List Bool} {L : Nat} {ord : List Nat} (M : MOk L rs es) (O : IsOrd rs ord) (h : rs.length ≤ 5) : bRun (waysN L rs ord) 401 [startN es ord] [] ≠ none := fun e => by
  obtain ⟨r, hr⟩ := few_ok (N := 5) M O (by decide) fun p hp => Nat.lt_of_lt_of_le (O.lt p hp) h
  rw [hr] at e
  cases e
theorem beh_few {r1 r2 : Rows} {e1 e2 : List Bool} {L : Nat} {ord : List Nat} (M1 : MOk L r1 e1) (M : MOk L (behR r1 r2) (e1 ++ e2)) (O : IsOrd (behR r1 r2) ord) (h : r1.length ≤ 5) : bRun (waysN L (behR r1 r2) ord) 401 [startN (e1 ++ e2) ord] [] ≠ none := fun e => by
  obtain ⟨r, hr⟩ := few_ok (N := 5) M O (by decide) fun p hp => Nat.lt_of_lt_of_le (beh_reach M1 ((O.mem p).mp hp)) h
  rw [hr] at e
  cases e
theorem beh_rev {r1 r2 trs : Rows} {e1 e2 tes : List Bool} {L : Nat} (M1 : MOk L r1 e1) (RV : RevOf r1 e1 trs tes) : RevOf (behR r1 r2) (e1 ++ e2) trs tes := fun w => by
  rw [beh_acc M1]
  exact RV w
/-- the same rows, the last end another -/
theorem near_mok {rs : Rows} {es fs : List Bool} {L : Nat} (M : MOk L rs es) (h : fs.length = es.length) : MOk L rs fs := ⟨M.l1, M.l400, M.row, M.tgt, h.trans M.es, M.L1, M.L3⟩
theorem part_other {r1 r2 : Rows} {e1 e2 : List Bool} {L : Nat} {o : Option (List Nat)} (M1 : MOk L r1 e1) (M2 : MOk L r2 e2) (h : First (Unl L r2 r1 e2 e1) L o) : First (Unl L r1 r2 e1 e2) L o := First.imp (fun u hu => by rw [unl_iff M2 M1 hu, unl_iff M1 M2 hu]; exact ne_comm) h
section
variable {X : Cx}
/-- [x] * 3, new, and no table of modules -/
def rThree : R2 := fun x y H Q => ∃ l z, x = .ref l ∧ y = .int 3 ∧ H l = some (.lst [z]) ∧ ∀ p H', Same H H' → H p = none → p ≠ sysModules → H' p = some (.lst [z, z, z]) → Q (.ref p) H'
theorem op_three : OpR X (binaryOp .Mult) rThree := by
  intro pins s σ H x y v u Q I rx ry h
  obtain ⟨l, z, rfl, rfl, hl, q⟩ := h
  obtain ⟨_, its, n, rv, _, at_⟩ := I.lstM hl
  obtain ⟨g, rfl, rg⟩ := vals1 rv
  cases rx
  obtain ⟨t, rfl⟩ := ry
  have nw := I.fresh
  have J := I.lnew (t' := s.toks) (ys := [z, z, z]) (its := [g, g, g]) (.cons rg (.cons rg (.cons rg .nil))) (by show 3 ≤ sizeLine; decide)
  refine wpAny_binaryOp_repeat_ref (T := "list") (U := "int") (by decide) ⟨_, at_, rfl⟩ (fun w => typeIs_int w 3 t)
    noFill_list_mul F.fills_int_mul F.slot_int_rmul repeat_list F.slot_int_index.lookup ?_
  refine call_meets F.slot_int_rmul (typeIs_int s 3 t) F.entry_int_rmul (F.args_int_rmul_2 _ _)
    (int___rmul___int_list 3 t l [g].toArray n) ⟨at_, rfl, ⟨_, at_, rfl⟩, ?_⟩
  refine call_meets F.slot_list_mul ⟨_, at_, rfl⟩ F.entry_list_mul (F.args_list_mul_2 _ _)
    (AutoListH.list___mul___list_int_3 l [g].toArray n 3 t (by decide +kernel) (by show ¬ 3 > (2 ^ 63 - 1) / 8; decide) (by show ¬ Builtin.List.listTooLong 3 = true; decide +kernel)) ⟨at_, ?_⟩
  exact ⟨.ref _, _, J, rfl, q _ _ (same_new nw) nw (Nat.ne_of_gt I.big) upd_same⟩
end
section
open NdefX LamX
theorem ext_refl (H : Hp) : ExtN H H := fun _ _ h _ => h
theorem ext_trans {H H' H2 : Hp} (x : ExtN H H') (y : ExtN H' H2) : ExtN H H2 := fun b o h nt => y b o (x b o h nt) nt
theorem same_ext {H H' : Hp} (s : Same H H') : ExtN H H' := fun b o h _ => s b o h
end
theorem cut_last (es : List Bool) : cutV (es.map V.bl) none (some (-1)) = (es.take (es.length - 1)).map V.bl := by
  have e1 : HT.sIx (es.map V.bl).length (es.map V.bl).length (some (-1)) = es.length - 1 := by
    show (if (-1 : Int) < 0 then ((-1 : Int) + ((es.map V.bl).length : Int)).toNat else min (-1 : Int).toNat (es.map V.bl).length) = _
    rw [if_pos (by decide), List.length_map]
    omega
  unfold cutV
  rw [e1, HT.sIx_none, List.drop_zero, Nat.sub_zero, List.map_take]

section
open NdefX LamX
variable {P : Program} {w : World} {K : PySem.W.Frag} {mg : Str → Option Value} {base : Heap}
theorem scLaw : FnScope ["_law_script", "_law_deck_here", "_law_turn", "_law_letters", "_law_one_here", "_law_other", "_law_shown", "_law_due", "_law_word", "_law_near", "_law_own", "_law_place", "_law_found", "error"] ["_law_script"] (defScope sLaw) := ⟨rfl, rfl, rfl, by decide +kernel, rfl, by decide +kernel, by decide +kernel⟩
def spLaw (K : PySem.W.Frag) (Pt : Addr) : Sp := fun vs H Q _ => ∃ (l : Addr) (ns : List Int), vs = [.ref l] ∧ SqL K H l (ns.map V.int) ∧ ns.length ≤ 63 ∧ TabN H Pt nmA ∧ ∀ H', Q (.bl true) H'
theorem ok_law {f fDK fDR fLR fMC fLE fTU fBK fWO fIO fIL fPA fAP fFA fBE CG CS Pt : Addr} {fd fdDK fdDR fdLR fdMC fdLE fdTU fdBK fdWO fdIO fdIL fdPA fdAP fdFA fdBE : FuncData} (F : Fun K "law" "law" sLaw f fd)
    (DK : FnOk P w K mg base CX0 1 fDK fdDK ["_law_script"] (spDeck K)) (FDK : Fun K "_law_deck" "_law_deck" sDeck fDK fdDK) (bDK : Binds K fdDK ["_law_script"] []) (gDK : mg "_law_deck" = some (.ref fDK))
    (DR : FnOk P w K mg base CX0 1 fDR fdDR ["_law_deck_here", "_law_many"] spDraw) (FDR : Fun K "_law_draw" "_law_draw" sDraw fDR fdDR) (bDR : Binds K fdDR ["_law_deck_here", "_law_many"] []) (gDR : mg "_law_draw" = some (.ref fDR))
    (LR : GRun P w K mg base 4 fLR fdLR ["_law_deck_here"] (spLongR Pt)) (FLR : Fun K "_law_long_right" "_law_long_right" sLongR fLR fdLR) (bLR : Binds K fdLR ["_law_deck_here"] []) (gLR : mg "_law_long_right" = some (.ref fLR))
    (MC : FnOk P w K mg base CX0 3 fMC fdMC ["_law_deck_here", "_law_letters", "_law_most"] (spMach K)) (FMC : Fun K "_law_machine" "_law_machine" sMach fMC fdMC) (bMC : Binds K fdMC ["_law_deck_here", "_law_letters", "_law_most"] []) (gMC : mg "_law_machine" = some (.ref fMC))
    (LE : FnOk P w K mg base CX0 2 fLE fdLE ["_law_letters", "_law_rows", "_law_ends"] (spLeast K)) (FLE : Fun K "_law_least" "_law_least" sLeast fLE fdLE) (bLE : Binds K fdLE ["_law_letters", "_law_rows", "_law_ends"] []) (gLE : mg "_law_least" = some (.ref fLE))
    (TU : FnOk P w K mg base CX0 3 fTU fdTU ["_law_machine_here"] (spTurned K)) (FTU : Fun K "_law_turned" "_law_turned" sTurned fTU fdTU) (bTU : Binds K fdTU ["_law_machine_here"] []) (gTU : mg "_law_turned" = some (.ref fTU))
    (BK : FnOk P w K mg base (L2.CX P w) 2 fBK fdBK ["machine"] (spBack K CG)) (FBK : Fun K "backwards" "backwards" sBack fBK fdBK) (bBK : Binds K fdBK ["machine"] []) (gBK : mg "backwards" = some (.ref fBK))
    (WO : FnOk P w K mg base CX0 1 fWO fdWO ["_law_letters", "_law_length"] spWords) (FWO : Fun K "_law_words" "_law_words" sWords fWO fdWO) (bWO : Binds K fdWO ["_law_letters", "_law_length"] []) (gWO : mg "_law_words" = some (.ref fWO))
    (IO : FnOk P w K mg base CX0 1 fIO fdIO ["machine", "word"] (spIsOf K)) (FIO : Fun K "is_of" "is_of" sIsOf fIO fdIO) (bIO : Binds K fdIO ["machine", "word"] []) (gIO : mg "is_of" = some (.ref fIO))
    (IL : FnOk P w K mg base CX0 2 fIL fdIL ["_law_machine_here", "_law_word"] (spIsOf K)) (FIL : Fun K "_law_is_of" "_law_is_of" sIsOfL fIL fdIL) (bIL : Binds K fdIL ["_law_machine_here", "_law_word"] []) (gIL : mg "_law_is_of" = some (.ref fIL))
    (PA : FnOk P w K mg base CX0 2 fPA fdPA ["_law_one_here", "_law_other"] (spParting K)) (FPA : Fun K "_law_parting" "_law_parting" sParting fPA fdPA) (bPA : Binds K fdPA ["_law_one_here", "_law_other"] []) (gPA : mg "_law_parting" = some (.ref fPA))
    (AP : FnOk P w K mg base CX0 3 fAP fdAP ["one", "other"] (spApartP K Pt)) (FAP : PySem.W.keepIn K (.ref fAP) = true) (bAP : Binds K fdAP ["one", "other"] []) (gAP : mg "apart" = some (.ref fAP))
    (FA : FnOk P w K mg base CX0 1 fFA fdFA ["_law_place"] (spFar K)) (FFA : Fun K "_law_far" "_law_far" sFar fFA fdFA) (bFA : Binds K fdFA ["_law_place"] []) (gFA : mg "_law_far" = some (.ref fFA))
    (BE : FnOk P w K mg base CX0 1 fBE fdBE ["_law_one_here", "_law_other"] (spBehind K)) (FBE : Fun K "_law_behind" "_law_behind" sBehind fBE fdBE) (bBE : Binds K fdBE ["_law_one_here", "_law_other"] []) (gBE : mg "_law_behind" = some (.ref fBE))
    (gTG : mg "TooGreat" = some (.ref CG)) (gSE : mg "ShelfError" = some (.ref CS)) (gg : PySem.W.exmOne K (.ref CG) (.ref CG) = some true) (EC : ExcC K CG) (ks : PySem.W.kitOne K (.ref CG) (.ref CS) = some true) (T : Mg mg) : GRun P w K mg base 5 f fd ["_law_script"] (spLaw K Pt) := by
  refine grun F scLaw (fun cdv A outer s H vs Q hG0 hr h => ?_)
  obtain ⟨l, ns, rfl, hS, hlen, tb, k⟩ := h
  have hG : (A.deeper (envOfC "law" (defScope sLaw) s.heap.objs.size f cdv)).guards = some [] := hG0
  have hu := hr.units
  have hu0 := hr.units0
  refine ⟨_, (pss_cons (ps_set (i := 1) scLaw.nd rfl (.inl rfl) (pe_call DK (hr.mono (by decide)) (by rfl) gDK FDK.kp bDK .nil pass0 (pa_cons (pv 0) pa_nil)))
      (pss_cons (ps_if (pt_not (pt_val (pe_callG LR hG (hr.mono (by decide)) (by rfl) gLR FLR.kp bLR (pa_cons (pv 1) pa_nil)))) (pss_one (ps_ret pe_bl)) pss_nil)
      (pss_cons (ps_for PassesOwn.never rfl (pi_range1 (by rfl) T.range (pa_cons pe_int pa_nil)) (pg_name (i := 2) scLaw.nd rfl (.inl rfl)) (pss_cons (ps_set (i := 3) scLaw.nd rfl (.inl rfl) (pe_op op_add pe_int (pe_call DR (hr.mono (by decide)) (by rfl) gDR FDR.kp bDR .nil pass0 (pa_cons (pv 1) (pa_cons pe_int pa_nil)))))
      (pss_cons (ps_par (i := 4) (j := 5) rfl scLaw.nd rfl rfl (by decide) rfl rfl (pa_cons (pe_call MC (hr.mono (by decide)) (by rfl) gMC FMC.kp bMC .nil pass0 (pa_cons (pv 1) (pa_cons (pv 3) (pa_cons pe_int pa_nil)))) (pa_cons (pe_call MC (hr.mono (by decide)) (by rfl) gMC FMC.kp bMC .nil pass0 (pa_cons (pv 1) (pa_cons (pv 3) (pa_cons pe_int pa_nil)))) pa_nil)) (by rfl))
      (pss_cons (ps_par (i := 6) (j := 7) rfl scLaw.nd rfl rfl (by decide) rfl rfl (pa_cons (pe_callB (call_reprD hG hu) (by rfl) T.repr (by decide +kernel) (pa_cons (pe_lstA (pa_cons (pv 4) (pa_cons (pv 5) pa_nil))) pa_nil)) (pa_cons (pe_call TU (hr.mono (by decide)) (by rfl) gTU FTU.kp bTU .nil pass0 (pa_cons (pv 4) pa_nil)) pa_nil)) (by rfl))
      (pss_cons (ps_if (pt_cmpR op_ne (pe_callB (call_reprD hG hu) (by rfl) T.repr (by decide +kernel) (pa_cons (pe_lstA (pa_cons (pe_call BK (hr.mono (by decide)) (by rfl) gBK FBK.kp bBK .nil passL (pa_cons (pv 4) pa_nil)) (pa_cons (pe_call BK (hr.mono (by decide)) (by rfl) gBK FBK.kp bBK .nil passL (pa_cons (pv 4) pa_nil)) pa_nil))) pa_nil)) (pe_callB (call_reprD hG hu) (by rfl) T.repr (by decide +kernel) (pa_cons (pe_lstA (pa_cons (pv 7) (pa_cons (pv 7) pa_nil))) pa_nil)) (nomark _)) (pss_one (ps_ret pe_bl)) pss_nil)
      (pss_cons (ps_for PassesOwn.never rfl (pi_list (pe_call WO (hr.mono (by decide)) (by rfl) gWO FWO.kp bWO .nil pass0 (pa_cons (pv 3) (pa_cons (pe_call DR (hr.mono (by decide)) (by rfl) gDR FDR.kp bDR .nil pass0 (pa_cons (pv 1) (pa_cons pe_int pa_nil))) pa_nil)))) (pg_name (i := 8) scLaw.nd rfl (.inl rfl)) (pss_one (ps_if (pt_cmpR op_ne (pe_call IO (hr.mono (by decide)) (by rfl) gIO FIO.kp bIO .nil pass0 (pa_cons (pv 7) (pa_cons (pe_revS (pv 8)) pa_nil))) (pe_call IL (hr.mono (by decide)) (by rfl) gIL FIL.kp bIL .nil pass0 (pa_cons (pv 4) (pa_cons (pv 8) pa_nil))) (nomark _)) (pss_one (ps_ret pe_bl)) pss_nil)))
      (pss_cons (ps_set (i := 9) scLaw.nd rfl (.inl rfl) (pe_tup (pa_cons (pv 3) (pa_cons (pe_ix (r := rIxT K) ix_tup (pv 4) pe_int (fun _ _ => rfl)) (pa_cons (pe_op op_catS (pe_slice (r := rSlS K) sl_tupS (pe_ix (r := rIxT K) ix_tup (pv 4) pe_int (fun _ _ => rfl)) po_none (po_some (pe_un un_neg pe_int))) (pe_tup (pa_cons (pe_not (pe_ix (r := rIxT K) ix_tup (pe_ix (r := rIxT K) ix_tup (pv 4) pe_int (fun _ _ => rfl)) (pe_un un_neg pe_int) (fun _ _ => rfl))) pa_nil))) pa_nil)))))
      (pss_cons (ps_for PassesOwn.never rfl (pi_list (pe_lstA (pa_cons (pv 5) (pa_cons (pv 9) (pa_cons (pv 4) (pa_cons (pe_call LE (hr.mono (by decide)) (by rfl) gLE FLE.kp bLE .nil pass0 (pa_cons (pe_ix (r := rIxT K) ix_tup (pv 4) pe_int (fun _ _ => rfl)) (pa_cons (pe_ix (r := rIxT K) ix_tup (pv 4) pe_int (fun _ _ => rfl)) (pa_cons (pe_ix (r := rIxT K) ix_tup (pv 4) pe_int (fun _ _ => rfl)) pa_nil)))) pa_nil)))))) (pg_name (i := 10) scLaw.nd rfl (.inl rfl)) (pss_cons (ps_set (i := 8) scLaw.nd rfl (.inl rfl) (pe_call PA (hr.mono (by decide)) (by rfl) gPA FPA.kp bPA .nil pass0 (pa_cons (pv 4) (pa_cons (pv 10) pa_nil))))
      (pss_one (ps_if (pt_cmpR op_ne (pe_callB (call_reprD hG hu) (by rfl) T.repr (by decide +kernel) (pa_cons (pe_lstA (pa_cons (pe_call AP (hr.mono (by decide)) (by rfl) gAP FAP bAP .nil pass0 (pa_cons (pv 4) (pa_cons (pv 10) pa_nil))) (pa_cons (pe_call AP (hr.mono (by decide)) (by rfl) gAP FAP bAP .nil pass0 (pa_cons (pv 10) (pa_cons (pv 4) pa_nil))) (pa_cons (pe_call AP (hr.mono (by decide)) (by rfl) gAP FAP bAP .nil pass0 (pa_cons (pv 4) (pa_cons (pv 10) pa_nil))) pa_nil)))) pa_nil)) (pe_callB (call_reprD hG hu) (by rfl) T.repr (by decide +kernel) (pa_cons (pe_op op_three (pe_lstA (pa_cons (pv 8) pa_nil)) pe_int) pa_nil)) (nomark _)) (pss_one (ps_ret pe_bl)) pss_nil))))
      (pss_one (ps_if (pt_cmpR op_ne (pe_callB (call_reprD hG hu) (by rfl) T.repr (by decide +kernel) (pa_cons (pe_lstA (pa_cons (pv 4) (pa_cons (pv 5) pa_nil))) pa_nil)) (pv 6) (nomark _)) (pss_one (ps_ret pe_bl)) pss_nil))))))))))
      (pss_cons (ps_par (i := 11) (j := 4) rfl scLaw.nd rfl rfl (by decide) rfl rfl (pa_cons (pe_call DR (hr.mono (by decide)) (by rfl) gDR FDR.kp bDR .nil pass0 (pa_cons (pv 1) (pa_cons pe_int pa_nil))) (pa_cons (pe_call MC (hr.mono (by decide)) (by rfl) gMC FMC.kp bMC .nil pass0 (pa_cons (pv 1) (pa_cons pe_int (pa_cons pe_int pa_nil)))) pa_nil)) (by rfl))
      (pss_cons (ps_if (pt_cmpR op_ne (pe_callB (r := rLen K) call_len_seq (by rfl) T.len PySem.boot_len (pa_cons (pe_ix (r := rIxT K) ix_tup (pe_call BK (hr.mono (by decide)) (by rfl) gBK FBK.kp bBK .nil passL (pa_cons (pe_call FA (hr.mono (by decide)) (by rfl) gFA FFA.kp bFA .nil pass0 (pa_cons (pv 11) pa_nil)) pa_nil)) pe_int (fun _ _ => rfl)) pa_nil)) (pe_op op_shlN pe_int (pv 11)) (nomark _)) (pss_one (ps_ret pe_bl)) pss_nil)
      (pss_cons (ps_if (pt_cmpR op_ne (pe_callB (call_reprD hG hu) (by rfl) T.repr (by decide +kernel) (pa_cons (pe_call BK (hr.mono (by decide)) (by rfl) gBK FBK.kp bBK .nil passL (pa_cons (pe_call BE (hr.mono (by decide)) (by rfl) gBE FBE.kp bBE .nil pass0 (pa_cons (pv 4) (pa_cons (pe_call FA (hr.mono (by decide)) (by rfl) gFA FFA.kp bFA .nil pass0 (pa_cons (pe_op op_add pe_int (pe_call DR (hr.mono (by decide)) (by rfl) gDR FDR.kp bDR .nil pass0 (pa_cons (pv 1) (pa_cons pe_int pa_nil)))) pa_nil)) pa_nil))) pa_nil)) pa_nil)) (pe_callB (call_reprD hG hu) (by rfl) T.repr (by decide +kernel) (pa_cons (pe_call TU (hr.mono (by decide)) (by rfl) gTU FTU.kp bTU .nil pass0 (pa_cons (pv 4) pa_nil)) pa_nil)) (nomark _)) (pss_one (ps_ret pe_bl)) pss_nil)
      (pss_cons (ps_try_as (i := 13) (tb := fun W => tAsg (tCB (rLen K) (tCons (tCallS (spBack K CG) (WE W) (tCons (tCall (spFar K) [] E0 (tCons (tOp (rI0 fun i j => V.int (i + j)) (tC (.int 8)) (tCall spDraw [] E0 (tCons (tVar 1) (tCons (tC (.int 7)) tNil)))) tNil)) tNil)) tNil)) (gName 12)) (ts := fun a cls d D σ H => (cls = .ref CG ∧ d = none) ∧ tAsg (tCB (rIsE K CG a) (tCons (tVar 13) (tCons (tC (.ref CS)) tNil))) (gName 12) D σ H) (Wout := fun _ _ _ _ => False) rfl rfl scLaw.nd rfl rfl ⟨rfl, by decide, .inl gTG⟩ L2.takes0
        (fun W pn xe tk _ => pss_one (ps_set (i := 12) scLaw.nd rfl (.inl rfl) (pe_callB (r := rLen K) call_len_seq (by rfl) T.len PySem.boot_len (pa_cons (pe_callS BK (hr.mono (by decide)) (by exact rfl) gBK FBK.kp bBK (fun σ => passAt tk σ) (by exact (pa_cons (pe_call FA (hr.mono (by decide)) (by rfl) gFA FFA.kp bFA .nil pass0 (pa_cons (pe_op op_add pe_int (pe_call DR (hr.mono (by decide)) (by rfl) gDR FDR.kp bDR .nil pass0 (pa_cons (pv 1) (pa_cons pe_int pa_nil)))) pa_nil)) pa_nil))) pa_nil))))
        (fun a oe cls d pn hz hf => ⟨fun pins s σ H D I h => by
          obtain ⟨⟨rfl, rfl⟩, h⟩ := h
          exact (pss_one (ps_set (i := 12) scLaw.nd rfl (.inl rfl) (pe_callB (r := rIsE K CG a) (call_isE EC hz hf) (by rfl) T.isi PyProof.Rows.boot_isinstance (pa_cons (pv 13) (pa_cons (pe_glob (v := .ref CS) (by rfl) gSE rfl) pa_nil))))).run pins s σ H D I h⟩))
      (pss_one (ps_ret (pe_cmpR op_eq (pe_callB (call_reprD hG hu) (by rfl) T.repr (by decide +kernel) (pa_cons (pv 12) pa_nil)) pe_str (nomark _))))))))))), ?_⟩
  refine ⟨_, rfl, l, ns, rfl, hS, hlen, fun H1 a c cells0 s1 na nc dk0 => ?_⟩
  have tb1 := tb.ext s1
  refine ⟨_, rfl, rfl, a, c, cells0, 0, rfl, dk0, by decide, by decide, tb1, fun H2 cells2 n2 dk2 b1 b2 tb2 => ⟨_, rfl, ?_⟩⟩
  refine ⟨6, rfl, by decide, by decide, for_range (lo := 0) (n := 6) (fun i σ H' => (∃ y2 y3 y4 y5 y6 y7 y8 y9 y10 y11 y12 y13 : Option V, σ = [some (.ref l), some (.ref a), y2, y3, y4, y5, y6, y7, y8, y9, y10, y11, y12, y13]) ∧ ∃ (cells : List Int) (n : Int), DeckAt a c cells n H' ∧ 0 ≤ n ∧ n ≤ 10 + 300 * i ∧ TabN H' Pt nmA)
    ⟨⟨_, _, _, _, _, _, _, _, _, _, _, _, rfl⟩, cells2, n2, dk2, by omega, by omega, tb2⟩ ?_ ?_⟩
  · rintro i σ H2 hi ⟨⟨y2, y3, y4, y5, y6, y7, y8, y9, y10, y11, y12, y13, rfl⟩, cells, n, dk, n0, nb, tb⟩
    refine ⟨_, rfl, a, c, cells, n, 3, rfl, dk, by decide, by decide, n0, by omega, fun H3 cells3 r r0 r3 dk3 k3 => ?_⟩
    have tb3 := tab_deck dk k3 tb
    obtain ⟨L, hL⟩ : ∃ L : Nat, (L : Int) = 1 + r := ⟨(1 + r).toNat, by omega⟩
    refine ⟨1, r, rfl, rfl, ?_⟩
    refine ⟨_, rfl, _, rfl, a, c, cells3, n + 1, 1 + r, 5, rfl, dk3, by omega, by omega, by omega, by omega, by decide, by decide, fun H4 cells4 n4 v1 rs0 es0 dk4 m1 m2 k4 hM => ?_⟩
    rw [← hL] at hM
    obtain ⟨r1, e1, hd1, M1, l5⟩ := mach_of hM (by omega) (by omega) (by decide)
    clear hM
    have tb4 := tab_deck dk3 k4 tb3
    refine ⟨_, rfl, _, rfl, a, c, cells4, n4, 1 + r, 6, rfl, dk4, by omega, by omega, by omega, by omega, by decide, by decide, fun H5 cells5 n5 v2 rs0' es0' dk5 m3 m4 k5 hM => ⟨_, _, rfl, ?_⟩⟩
    rw [← hL] at hM
    obtain ⟨r2, e2, hd2, M2, l6⟩ := mach_of hM (by omega) (by omega) (by decide)
    clear hM
    have tb5 := tab_deck dk4 k5 tb4
    have hd15 := Dt.keep k5 _ _ hd1
    -- shown, due
    refine ⟨_, rfl, _, rfl, by show 2 ≤ sizeLine; decide, fun q1 H6 s6 q10 ns1 hq1 => ?_⟩
    have dk6 := deck_same s6 dk5
    have hd16 := same_dt s6 hd15
    have hd26 := same_dt s6 hd2
    obtain ⟨g1, g2, g3⟩ := two_show M1 M2
    refine ⟨_, .list [machDt L r1 e1, machDt L r2 e2], Bd a c, rfl, .lst (deck_off dk5 q10) ns1 (.inl hq1) (.cons hd16 (.cons hd26 .nil)), g1, g2, g3, ?_⟩
    obtain ⟨S0, hS0⟩ : ∃ S, (PyData.list [machDt L r1 e1, machDt L r2 e2]).shown = S := ⟨_, rfl⟩
    rw [hS0]
    refine ⟨_, rfl, L, r1, e1, v1, Bd a c, rfl, hd16, M1, deck_tb dk6, by omega, fun H7 vd trs out tes oe s7 hdue Mt RV SM => ⟨_, _, rfl, ?_⟩⟩
    have Mo := smallest_mok Mt SM
    have dk7 := deck_same s7 dk6
    have hd17 := same_dt s7 hd16
    have hd27 := same_dt s7 hd26
    have tb7 := tb5.ext (s6.trans s7)
    -- from behind, twice
    obtain ⟨g4, g5, g6⟩ := two_show Mo Mo
    refine ⟨_, rfl, L, r1, e1, v1, Bd a c, rfl, hd17, M1, deck_tb dk7, fun ord O => ⟨fun sets done hb H8 w1 s8 hw1 => ?_, fun hb => absurd hb (ord_few M1 O (by omega))⟩⟩
    obtain ⟨x1, x2⟩ := back_due M1 O hb RV SM
    rw [x1, x2] at hw1
    clear hb x1 x2
    have dk8 := deck_same s8 dk7
    have hd18 := same_dt s8 hd17
    refine ⟨_, rfl, L, r1, e1, v1, Bd a c, rfl, hd18, M1, deck_tb dk8, fun ord' O' => ⟨fun sets' done' hb H9 w2 s9 hw2 => ?_, fun hb => absurd hb (ord_few M1 O' (by omega))⟩⟩
    obtain ⟨x1, x2⟩ := back_due M1 O' hb RV SM
    rw [x1, x2] at hw2
    clear hb x1 x2
    have dk9 := deck_same s9 dk8
    refine ⟨by show 2 ≤ sizeLine; decide, fun q2 H10 s10 q20 ns2 hq2 => ?_⟩
    have dk10 := deck_same s10 dk9
    refine ⟨_, .list [machDt L out oe, machDt L out oe], Bd a c, rfl, .lst (deck_off dk9 q20) ns2 (.inl hq2) (.cons (same_dt (s9.trans s10) hw1) (.cons (same_dt s10 hw2) .nil)), g4, g5, g6, ?_⟩
    have s710 := s8.trans (s9.trans s10)
    have hdue10 := same_dt s710 hdue
    refine ⟨_, rfl, _, rfl, by show 2 ≤ sizeLine; decide, fun q3 H11 s11 q30 ns3 hq3 => ?_⟩
    refine ⟨_, .list [machDt L out oe, machDt L out oe], Bd a c, rfl, .lst (deck_off dk10 q30) ns3 (.inl hq3) (.cons (same_dt s11 hdue10) (.cons (same_dt s11 hdue10) .nil)), g4, g5, g6, ?_⟩
    generalize (PyData.list [machDt L out oe, machDt L out oe]).shown = S1
    refine ⟨rfl, _, rfl, ite2 (fun z => ?_) (fun _ => ?_)⟩
    · exact absurd rfl (of_decide_eq_false (not_cases z))
    have s711 := s710.trans s11
    have dk11 := deck_same s11 dk10
    have hd111 := same_dt s711 hd17
    have hd211 := same_dt s711 hd27
    have hdue11 := same_dt s711 hdue
    have tb11 := tb7.ext s711
    clear g4 g5 g6 hq1 hq2 hq3 hw1 hw2 hdue10 hd18 hd17 hd27 hd16 hd26 hdue hd15 hd2 hd1 s710 s711 s11 s10 s9 s8 s7 s6 q20 q30 q10 ns1 ns2 ns3 dk6 dk7 dk8 dk9 dk10 tb7 tb5 tb4
    -- words
    refine ⟨_, rfl, _, rfl, a, c, cells5, n5, 5, rfl, dk11, by decide, by decide, by omega, by omega, fun H12 cells12 rr rr0 rr5 dk12 k12 => ?_⟩
    obtain ⟨nw, rfl⟩ := Int.eq_ofNat_of_zero_le rr0
    have hd112 := Dt.keep k12 _ _ hd111
    have hdue12 := Dt.keep k12 _ _ hdue11
    have hd212 := Dt.keep k12 _ _ hd211
    have tb12 := tab_deck dk11 k12 tb11
    refine ⟨L, nw, by rw [hL]; rfl, by omega, by omega, by omega, fun H13 lw ws s13 lw0 hlw hws => ?_⟩
    have dk13 := deck_same s13 dk12
    refine ⟨lw, rfl, ⟨_, SqL.of hlw⟩, ?_⟩
    refine for_list (K := K) (a := lw) (xs := ws.map fun w => V.str (wS w)) (fun j σ H' => (∃ y8 : Option V, σ = [some (.ref l), some (.ref a), some (.int (0 + (i : Int))), some (.int (1 + r)), some v1, some v2, some (.str S0), some vd, y8, y9, y10, y11, y12, y13]) ∧ Same H13 H')
      ⟨⟨_, rfl⟩, Same.refl _⟩ (fun j σ H' _ p => SqL.of (p.2 _ _ hlw)) ?_ ?_
    · rintro j x σ H14 hx ⟨⟨y8', rfl⟩, s14⟩
      rw [List.getElem?_map] at hx
      obtain ⟨w, hw, rfl⟩ := Option.map_eq_some_iff.mp hx
      obtain ⟨wl, wlen⟩ := hws w (List.mem_of_getElem? hw)
      have e : acc out oe w.reverse 0 = acc r1 e1 w 0 := (smallest_eqv SM w.reverse).trans ((RV w.reverse).trans (by rw [List.reverse_reverse]))
      have s1314 := s13.trans s14
      refine ⟨_, rfl, _, rfl, w, rfl, by omega, Bd a c, vd, L, out, oe, w.reverse, rfl, same_dt s1314 hdue12, Mo, (fun c hc => wl c (List.mem_reverse.mp hc)), ?_⟩
      refine ⟨_, rfl, _, rfl, Bd a c, v1, L, r1, e1, w, rfl, same_dt s1314 hd112, M1, wl, ?_⟩
      rw [e]
      refine ⟨rfl, _, rfl, ite2 (fun z => ?_) (fun _ => ?_)⟩
      · exact absurd rfl (of_decide_eq_false (not_cases z))
      exact ⟨⟨_, rfl⟩, s14⟩
    rintro σ H14 ⟨⟨y8', rfl⟩, s14⟩
    -- the near one
    have s1214 := s13.trans s14
    have dk14 := deck_same s14 dk13
    have hd114 := same_dt s1214 hd112
    have hd214 := same_dt s1214 hd212
    have tb14 := tb12.ext s1214
    clear hdue12 hdue11 hd112 hd111 hd212 hd211 tb12 tb11 s1214 s14 s13 dk13 dk12 dk11 k12 hlw lw0 hws
    obtain ⟨m, pr, pe, rvs, rfl, nm, npr, npe, MM, drr, der, dar⟩ := dt_parts hd114
    have el1 : 1 ≤ (e1.map V.bl).length := by rw [List.length_map, M1.es]; exact M1.l1
    obtain ⟨b, hb⟩ : ∃ b, e1[e1.length - 1]? = some b := ⟨_, List.getElem?_eq_getElem (by rw [List.length_map] at el1; omega)⟩
    have hlast : atI (e1.map V.bl) (-1) = some (.bl b) := atI_neg1 (by rw [List.length_map, List.getElem?_map, hb]; rfl) el1
    refine ⟨_, rfl, _, rfl, m, _, 1, _, rfl, rfl, .inl MM.hm, atI_nat (j := 1) rfl, _, rfl, m, _, 2, _, rfl, rfl, .inl MM.hm, atI_nat (j := 2) rfl, 1, rfl, -1, rfl, pe, _, rfl, MM.he, fun q4 H15 s15 hq4 wq4 => ?_⟩
    have MM15 := MM.same s15
    refine ⟨_, rfl, m, _, 2, _, rfl, rfl, .inl MM15.hm, atI_nat (j := 2) rfl, 1, rfl, pe, _, -1, _, rfl, rfl, .inl MM15.he, hlast, b, rfl, by show 1 ≤ sizeLine; decide, fun q5 nq5 => ?_⟩
    rw [cut_last] at hq4
    have dk15 := deck_same s15 dk14
    have nq4 : ¬ Bd a c q4 := nb_of (deck_tb dk14) npe wq4
    have n5 : ¬ Bd a c q5 := deck_off dk15 nq5
    have s16 := same_new (o := .tup [.bl (!b)]) nq5
    have dk16 := deck_same s16 dk15
    have ne : (e1.take (e1.length - 1)).length + 1 = e1.length := by rw [List.length_take]; rw [List.length_map] at el1; omega
    have e400 : e1.length ≤ 400 := by rw [M1.es]; exact M1.l400
    refine ⟨q4, q5, _, _, rfl, rfl, same_rd s16 hq4, .inl upd_same, by rw [List.length_map]; exact Nat.le_trans (show (e1.take (e1.length - 1)).length + 1 ≤ 400 by omega) (by decide), fun q6 H17 s17 hq6 wq6 => ?_⟩
    rw [show (e1.take (e1.length - 1)).map V.bl ++ [V.bl (!b)] = (e1.take (e1.length - 1) ++ [!b]).map V.bl by rw [List.map_append]; rfl] at hq6
    have dk17 := deck_same s17 dk16
    have nq6 : ¬ Bd a c q6 := nb_of2 (deck_tb dk16) nq4 n5 wq6
    refine ⟨by show 3 ≤ sizeLine; decide, fun nr nnr => ?_⟩
    have s18 := same_new (o := .tup [.int (1 + r), .ref pr, .ref q6]) nnr
    have dk18 := deck_same s18 dk17
    have s1418 := s15.trans (s16.trans (s17.trans s18))
    have M3 : MOk L r1 (e1.take (e1.length - 1) ++ [!b]) := near_mok M1 (by rw [List.length_append]; exact ne)
    have hnear : Dt (Bd a c) K (upd H17 nr (.tup [.int (1 + r), .ref pr, .ref q6])) (.ref nr) (machDt L r1 (e1.take (e1.length - 1) ++ [!b])) :=
      .tup (deck_off dk17 nnr) (.inl upd_same) (.cons (by rw [← hL]; exact .int _) (.cons (same_dt s1418 drr) (.cons (.tup nq6 (same_rd s18 hq6) (dt_cs (fun x => Dt.bl x) _)) .nil)))
    have hd118 := same_dt s1418 hd114
    have hd218 := same_dt s1418 hd214
    have tb18 := tb14.ext s1418
    have MM18 := MM.same s1418
    clear MM15 MM hd114 hd214 tb14 drr der dar hlast hb el1 hq4 hq6 nq4 n5 nq6 s1418 s18 s17 s16 s15 nnr nq5 wq4 wq6 dk14 dk15 dk16 dk17
    generalize upd H17 nr (.tup [.int (1 + r), .ref pr, .ref q6]) = H18 at *
    -- four to part it from
    refine ⟨_, rfl, _, rfl, _, rfl, _, rfl, m, _, 0, _, rfl, rfl, .inl MM18.hm, atI_nat (j := 0) rfl, _, rfl, m, _, 1, _, rfl, rfl, .inl MM18.hm, atI_nat (j := 1) rfl, _, rfl, m, _, 2, _, rfl, rfl, .inl MM18.hm, atI_nat (j := 2) rfl, L, r1, e1, m, pr, pe, rvs, Bd a c, rfl, M1, MM18.mb, deck_tb dk18, by omega, fun H19 vl lrs les s19 hdl sml => ?_⟩
    have M4 := smallest_mok M1 sml
    have dk19 := deck_same s19 dk18
    refine ⟨by show 4 ≤ sizeLine; decide, fun lo H20 s20 lo0 _ hlo => ?_⟩
    have dk20 := deck_same s20 dk19
    have s1820 := s19.trans s20
    have hd120 := same_dt s1820 hd118
    have hd220 := same_dt s1820 hd218
    have tb20 := tb18.ext s1820
    have own : ∀ x ∈ ([v2, .ref nr, .ref m, vl] : List V), ∃ (qs : Rows) (fs : List Bool), Dt (Bd a c) K H20 x (machDt L qs fs) ∧ MOk L qs fs := fun x hx => by
      rcases List.mem_cons.mp hx with z | hx
      · rw [z]
        exact ⟨_, _, hd220, M2⟩
      rcases List.mem_cons.mp hx with z | hx
      · rw [z]
        exact ⟨_, _, same_dt s1820 hnear, M3⟩
      rcases List.mem_cons.mp hx with z | hx
      · rw [z]
        exact ⟨_, _, hd120, M1⟩
      · rw [List.mem_singleton.mp hx]
        exact ⟨_, _, same_dt s20 hdl, M4⟩
    clear hnear hdl M3 M4 sml MM18 hd118 hd218 tb18 s19 s20 s1820 dk18 dk19 lo0
    refine ⟨lo, rfl, ⟨_, SqL.of hlo⟩, ?_⟩
    refine for_list (K := K) (a := lo) (xs := [v2, .ref nr, .ref m, vl]) (fun j σ H' => (∃ y8 y10 : Option V, σ = [some (.ref l), some (.ref a), some (.int (0 + (i : Int))), some (.int (1 + r)), some (.ref m), some v2, some (.str S0), some vd, y8, some (.ref nr), y10, y11, y12, y13]) ∧ ExtN H20 H' ∧ TabN H' Pt nmA)
      ⟨⟨_, _, rfl⟩, ext_refl _, tb20⟩ (fun j σ H' _ p => SqL.of (lst_ext p.2.1 hlo)) ?_ ?_
    · rintro j x σ H21 hx ⟨⟨y8', y10', rfl⟩, x21, tb21⟩
      obtain ⟨qs, fs, hdx, Mq⟩ := own x (List.mem_of_getElem? hx)
      have hd121 := Dt.extN x21 _ _ hd120
      have hdx21 := Dt.extN x21 _ _ hdx
      have dk21 := deck_ext x21 dk20
      refine ⟨_, rfl, _, rfl, L, r1, qs, e1, fs, .ref m, x, Bd a c, Bd a c, rfl, hd121, hdx21, M1, Mq, fun H22 o s22 fo ol => ?_⟩
      have hd122 := same_dt s22 hd121
      have hdx22 := same_dt s22 hdx21
      have tb22 := tb21.ext s22
      have dk22 := deck_same s22 dk21
      refine ⟨_, rfl, _, rfl, L, r1, qs, e1, fs, .ref m, x, Bd a c, Bd a c, rfl, hd122, hdx22, M1, Mq, tb22, fun H23 o1 x23 tb23 f1 => ?_⟩
      obtain rfl := first_eq f1 fo
      have hd123 := Dt.extN x23 _ _ hd122
      have hdx23 := Dt.extN x23 _ _ hdx22
      have dk23 := deck_ext x23 dk22
      refine ⟨_, rfl, _, rfl, L, qs, r1, fs, e1, x, .ref m, Bd a c, Bd a c, rfl, hdx23, hd123, Mq, M1, tb23, fun H24 o2 x24 tb24 f2 => ?_⟩
      obtain rfl := first_eq (part_other M1 Mq f2) f1
      have hd124 := Dt.extN x24 _ _ hd123
      have hdx24 := Dt.extN x24 _ _ hdx23
      have dk24 := deck_ext x24 dk23
      refine ⟨_, rfl, _, rfl, L, r1, qs, e1, fs, .ref m, x, Bd a c, Bd a c, rfl, hd124, hdx24, M1, Mq, tb24, fun H25 o3 x25 tb25 f3 => ?_⟩
      obtain rfl := first_eq f3 f1
      have dk25 := deck_ext x25 dk24
      refine ⟨by show 3 ≤ sizeLine; decide, fun p1 H26 s26 p10 np1 hp1 => ?_⟩
      have dk26 := deck_same s26 dk25
      have tsh := tx_show (L := L) (by omega) (fun u e => ⟨(by subst e; exact f3.1), ol u e⟩)
      obtain ⟨t1, t2, t3⟩ := list_show (xs := [txD o3, txD o3, txD o3]) (fun x hx => by
        rcases List.mem_cons.mp hx with z | hx
        · rw [z]; exact tsh
        rcases List.mem_cons.mp hx with z | hx
        · rw [z]; exact tsh
        · rw [List.mem_singleton.mp hx]; exact tsh) (by show 3 ≤ 5; decide)
      refine ⟨_, .list [txD o3, txD o3, txD o3], Bd a c, rfl, .lst (deck_off dk25 p10) np1 (.inl hp1) (.cons (tx_dt _) (.cons (tx_dt _) (.cons (tx_dt _) .nil))), t1, t2, t3, ?_⟩
      refine ⟨_, rfl, by show 1 ≤ sizeLine; decide, fun p2 H27 s27 p20 np2 hp2 => ⟨p2, _, rfl, rfl, hp2, fun p3 H28 s28 p30 np3 hp3 => ?_⟩⟩
      have dk27 := deck_same s27 dk26
      refine ⟨_, .list [txD o3, txD o3, txD o3], Bd a c, rfl, .lst (deck_off dk27 p30) np3 (.inl hp3) (.cons (tx_dt _) (.cons (tx_dt _) (.cons (tx_dt _) .nil))), t1, t2, t3, ?_⟩
      generalize (PyData.list [txD o3, txD o3, txD o3]).shown = S1
      refine ⟨rfl, _, rfl, ite2 (fun z => ?_) (fun _ => ?_)⟩
      · exact absurd rfl (of_decide_eq_false (not_cases z))
      have s2528 := s26.trans (s27.trans s28)
      exact ⟨⟨_, _, rfl⟩, ext_trans x21 (ext_trans (same_ext s22) (ext_trans x23 (ext_trans x24 (ext_trans x25 (same_ext s2528))))), tb25.ext s2528⟩
    rintro σ H21 ⟨⟨y8', y10', rfl⟩, x21, tb21⟩
    have hd121 := Dt.extN x21 _ _ hd120
    have hd221 := Dt.extN x21 _ _ hd220
    have dk21 := deck_ext x21 dk20
    refine ⟨_, rfl, _, rfl, by show 2 ≤ sizeLine; decide, fun p4 H22 s22 p40 np4 hp4 => ?_⟩
    refine ⟨_, .list [machDt L r1 e1, machDt L r2 e2], Bd a c, rfl, .lst (deck_off dk21 p40) np4 (.inl hp4) (.cons (same_dt s22 hd121) (.cons (same_dt s22 hd221) .nil)), g1, g2, g3, ?_⟩
    rw [hS0]
    refine ⟨_, rfl, rfl, _, rfl, ite2 (fun z => ?_) (fun _ => ?_)⟩
    · exact absurd rfl (of_decide_eq_false (not_cases z))
    exact ⟨⟨_, _, _, _, _, _, _, _, _, _, _, _, rfl⟩, cells12, n5 + 1, deck_same s22 dk21, by omega, by rw [Int.natCast_add]; omega, tb21.ext s22⟩
  · rintro σ H2 ⟨⟨y2, y3, y4, y5, y6, y7, y8, y9, y10, y11, y12, y13, rfl⟩, cells, n, dk, n0, nb, tb⟩
    have nb : n ≤ 2000 := by
      have e : (10 + 300 * ((6 : Nat) : Int) : Int) = 1810 := by decide
      omega
    refine ⟨_, rfl, a, c, cells, n, 8, rfl, dk, by decide, by decide, n0, by omega, fun H3 cells3 r r0 r8 dk3 k3 => ?_⟩
    obtain ⟨p, rfl⟩ := Int.eq_ofNat_of_zero_le r0
    have p8 : p < 8 := by omega
    refine ⟨_, rfl, a, c, cells3, n + 1, 2, 5, rfl, dk3, by omega, by omega, by decide, by decide, by decide, by decide, fun H4 cells4 n4 v1 rs0 es0 dk4 m1 m2 k4 hM => ⟨_, _, rfl, ?_⟩⟩
    obtain ⟨r1, e1, hd1, M1, l5⟩ := mach_of (L := 2) hM (by decide) (by decide) (by decide)
    clear hM
    have Mf : MOk 2 (rsFar p) (esFar p) := mok_far (by omega)
    -- a far letter
    refine ⟨_, rfl, p, rfl, by omega, fun H5 vf s5 hf => ?_⟩
    have dk5 := deck_same s5 dk4
    refine ⟨2, rsFar p, esFar p, vf, Bd a c, rfl, hf _ (deck_tb dk4), Mf, deck_tb dk5, fun ord O => ⟨fun sets done hb H6 vb s6 hvb => ?_, fun hb => ?_⟩⟩
    case refine_2 =>
      obtain ⟨r, hr', _⟩ := far_small p8 O
      rw [hr'] at hb
      cases hb
    have dl : done.length = 2 ^ (p + 1) := by
      obtain ⟨r, hr', hl⟩ := far_small p8 O
      rw [hr'] at hb
      cases hb
      exact hl
    have dk6 := deck_same s6 dk5
    obtain ⟨m, pr, pe, rvs, rfl, nm, npr, npe, MM, drr, der, dar⟩ := dt_parts hvb
    have rl : (rvs.length : Int) = 2 * 2 ^ p := by
      rw [MM.hl, dl, Nat.pow_succ]
      push_cast
      omega
    refine ⟨m, _, 1, _, rfl, rfl, .inl MM.hm, atI_nat (j := 1) rfl, pr, rvs, rfl, .inr (.inl MM.hr), ?_⟩
    refine ⟨_, rfl, 2, p, rfl, rfl, ⟨by omega, ?_⟩, ?_⟩
    · rw [show Builtin.Int.intBits 2 = 2 by decide +kernel]
      have e : (2 : Int) ^ 27 = 134217728 := by decide
      omega
    rw [rl]
    refine ⟨rfl, _, rfl, ite2 (fun z => ?_) (fun _ => ?_)⟩
    · exact absurd rfl (of_decide_eq_false (not_cases z))
    have hd16 := same_dt (s5.trans s6) hd1
    clear MM drr der dar hvb hb dl rl nm npr npe hf
    -- a machine with states behind
    refine ⟨_, rfl, _, rfl, a, c, cells4, n4, 4, rfl, dk6, by decide, by decide, by omega, by omega, fun H7 cells7 r' r0' r4 dk7 k7 => ⟨9, r', rfl, rfl, ?_⟩⟩
    obtain ⟨p', rfl⟩ := Int.eq_ofNat_of_zero_le r0'
    have hd17 := Dt.keep k7 _ _ hd16
    refine ⟨9 + p', (by show [V.int (9 + (p' : Int))] = [V.int ((9 + p' : Nat) : Int)]; rw [Int.natCast_add]; rfl), by omega, fun H8 vf' s8 hf' => ?_⟩
    have Mf' : MOk 2 (rsFar (9 + p')) (esFar (9 + p')) := mok_far (by omega)
    have dk8 := deck_same s8 dk7
    have hd18 := same_dt s8 hd17
    have Mb : MOk 2 (behR r1 (rsFar (9 + p'))) (e1 ++ esFar (9 + p')) := mok_beh M1 Mf' (by rw [far_len]; omega)
    refine ⟨2, r1, rsFar (9 + p'), e1, esFar (9 + p'), v1, vf', Bd a c, rfl, hd18, hf' _ (deck_tb dk7), M1, Mf', deck_tb dk8, fun H9 vh s9 hvh => ?_⟩
    have dk9 := deck_same s9 dk8
    refine ⟨2, behR r1 (rsFar (9 + p')), e1 ++ esFar (9 + p'), vh, Bd a c, rfl, hvh, Mb, deck_tb dk9, fun ord' O' => ⟨fun sets' done' hb H10 vb' s10 hvb' => ?_, fun hb => absurd hb (beh_few M1 Mb O' (by omega))⟩⟩
    obtain ⟨g1, g2, g3⟩ := one_show (back_mok Mb O' hb)
    have dk10 := deck_same s10 dk9
    refine ⟨_, machDt 2 done' (endsN sets'), Bd a c, rfl, hvb', g1, g2, g3, ?_⟩
    refine ⟨_, rfl, 2, r1, e1, v1, Bd a c, rfl, same_dt (s9.trans s10) hd18, M1, deck_tb dk10, by omega, fun H11 vd trs out tes oe s11 hdue Mt RV SM => ?_⟩
    obtain ⟨rfl, rfl⟩ := back_due Mb O' hb (beh_rev M1 RV) SM
    refine ⟨_, machDt 2 done' (endsN sets'), Bd a c, rfl, hdue, g1, g2, g3, ?_⟩
    generalize (machDt 2 done' (endsN sets')).shown = S2
    refine ⟨rfl, _, rfl, ite2 (fun z => ?_) (fun _ => ?_)⟩
    · exact absurd rfl (of_decide_eq_false (not_cases z))
    have dk11 := deck_same s11 dk10
    clear hd18 hd17 hd16 hvh hvb' hb g1 g2 g3 hdue Mt RV SM hf'
    -- too great
    refine ⟨_, rfl, a, c, cells7, n4 + 1, 7, rfl, dk11, by decide, by decide, by omega, by omega, fun H12 cells12 r2 r20 r27 dk12 k12 => ⟨8, r2, rfl, rfl, ?_⟩⟩
    obtain ⟨p2, rfl⟩ := Int.eq_ofNat_of_zero_le r20
    refine ⟨8 + p2, (by show [V.int (8 + (p2 : Int))] = [V.int ((8 + p2 : Nat) : Int)]; rw [Int.natCast_add]; rfl), by omega, fun H13 vf2 s13 hf2 => ?_⟩
    have dk13 := deck_same s13 dk12
    refine ⟨2, rsFar (8 + p2), esFar (8 + p2), vf2, Bd a c, rfl, hf2 _ (deck_tb dk12), mok_far (by omega), deck_tb dk13, fun ord2 O2 => ⟨fun sets2 done2 hb H14 v14 s14 h14 => ?_, fun hb H14 s14 => ?_⟩⟩
    · rw [far_great (by omega) (by omega) O2] at hb
      cases hb
    refine ⟨true, gg, fun _ a' ha => ⟨⟨rfl, rfl⟩, ?_⟩, fun z => by cases z⟩
    refine ⟨_, rfl, .ref CS, .ref CS, true, rfl, fun u hu => hu, ks, ?_⟩
    refine ⟨_, rfl, _, .bool true, Bd a c, rfl, .bl true, rfl, by decide, by decide +kernel, ?_⟩
    rw [show (PyData.bool true).shown = ("True" : Str) by decide +kernel]
    refine ⟨rfl, ?_⟩
    rw [show decide (V.str (Str.ofString "True") = V.str (Str.ofString "True")) = true from decide_eq_true rfl]
    exact k _
end
/-! ### the law's call where one code object has a table of its own -/
section
open NdefX LamX
variable {P : Program} {w : World} {K : PySem.W.Frag} {mg : Str → Option Value}
/-- what is tracked at the start: the table, still empty, and at most the script -/
structure OneT (K : PySem.W.Frag) (H : Hp) (a Pt : Addr) : Prop where
  tb : H Pt = some (.tbl #[])
  rest : ∀ b o, b ≠ Pt → H b = some o → b = a ∧ (∃ ob xs, o = .frz ob (.lst xs) ∧ (∀ es ep, ob.data ≠ .dict es ep) ∧ ob.data ≠ .plain) ∧ K.lookup a = none
/-- the heap of the start: the table is there, empty; its code object is known -/
structure TabAt (K : PySem.W.Frag) (h : Heap) (mg : Str → Option Value) (c Pt : Addr) : Prop where
  get : h.get? Pt = some { cls := .none, data := .fields #[] }
  non : K.lookup Pt = none
  hd : PySem.W.codeHdIn K c Pt = true
  bmn : ∃ (bm : Addr) (ob : Obj), mg "__builtins__" = some (.ref bm) ∧ bm ≠ builtinsNs ∧ h.get? bm = some ob ∧ ob.cls = .type "module" ∧ ob.dict = some builtinsNs ∧ ob.data = .plain
theorem gcallT {k : Nat} {fa a c Pt : Addr} {fd : FuncData} {x : Str} {sp : Sp} {s₁ : Shared} {mb : Str → Option Value} {H : Hp}
    (inH : K.In s₁.heap) (atG : s₁.heap.Ns mainGlobals mg) (hb : s₁.heap.Ns builtinsNs mb) (bB : ∀ x : Str, x ≠ "__name__" → mb x = bootBuiltins x) (lim : s₁.heap.NoLimit) (hg : s₁.gens = #[])
    (TA : TabAt K s₁.heap mg c Pt) (hr : Room k callerA) (R : ∀ base : Heap, K.In base → base.Ns mainGlobals mg → TabB base mg c Pt → GRun P w K mg base k fa fd [x] sp) (bind : ∀ (s : Shared) (u : Value), BindsTo s fd ⟨[u], []⟩ [(x, u)])
    (hok : HOk P w H s₁.heap) (only : OneT K H a Pt) (hsp : sp [.ref a] H (fun v _ => v = .bl true) E0) : TrueAt P w fa a s₁ := by
  obtain ⟨tget, tnon, thd, bm, bo, bg, bnb, bat, bcl, bdi, bda⟩ := TA
  have free : ∀ {b : Addr} {o : Obj}, s₁.heap.get? b = some o → b ≠ Pt → ((∃ es ep, o.data = .dict es ep) ∨ o.data = .plain) → H b = none := by
    intro b o e np hd
    cases z : H b with
    | none => rfl
    | some u =>
      obtain ⟨_, ⟨ob, xs, rfl, nd, npl⟩, _⟩ := only.rest b u np z
      have e2 := (hok b _ z).1
      rw [e] at e2
      cases e2
      rcases hd with ⟨es, ep, d⟩ | d
      · exact absurd d (nd es ep)
      · exact absurd d npl
  have notP : ∀ {b : Addr} {o : Obj}, s₁.heap.get? b = some o → ((∃ es ep, o.data = .dict es ep) ∨ o.data = .plain) → b ≠ Pt := by
    rintro b o e hd rfl
    rw [tget] at e
    cases e
    rcases hd with ⟨_, _, d⟩ | d <;> cases d
  have nsB : ∀ {b : Addr} {m : Str → Option Value}, s₁.heap.Ns b m → (hidT s₁.heap H).Ns b m := by
    rintro b m ⟨o, es, ep, e, d, r⟩
    have hd : (∃ es ep, o.data = .dict es ep) ∨ o.data = .plain := .inl ⟨es, ep, d⟩
    exact ⟨o, es, ep, hidT_get e (free e (notP e hd) hd), d, r⟩
  have kB : K.In (hidT s₁.heap H) := by
    intro b o q
    refine hidT_get (inH b o q) ?_
    cases z : H b with
    | none => rfl
    | some u =>
      by_cases np : b = Pt
      · rw [np, tnon] at q
        cases q
      · obtain ⟨e, _, n⟩ := only.rest b u np z
        rw [e, n] at q
        cases q
  have md : L2.Mod K mg (hidT s₁.heap H) := by
    obtain ⟨mc, l1, l2⟩ := lim
    exact ⟨kB, nsB atG, ⟨mb, nsB hb, bB⟩, ⟨mc, nsB l1, l2⟩⟩
  have gNe : mainGlobals ≠ Pt := by
    obtain ⟨o, es, ep, e, d, _⟩ := atG
    exact notP e (.inl ⟨es, ep, d⟩)
  have tbB : TabB (hidT s₁.heap H) mg c Pt := by
    have hd : (∃ es ep, bo.data = .dict es ep) ∨ bo.data = .plain := .inr bda
    refine tabB_of_K kB thd ⟨bm, bo, bg, bnb, ?_, notP bat hd, hidT_get bat (free bat (notP bat hd) hd), bcl, bdi, bda⟩ gNe
    rintro rfl
    obtain ⟨o, es, ep, e, d, _⟩ := atG
    rw [bat] at e
    cases e
    rw [bda] at d
    cases d
  have env : Env0 P w K mg (hidT s₁.heap H) callerA [] s₁ H :=
    { frames := rfl, mod := md, bs := fun b o q => of_hidT q, bsz := Nat.le_of_eq (hidT_size _ _), funs := trivial, frf := fun b z => absurd z List.not_mem_nil, hok := hok, bare := .of_eq hg }
  have run := R _ kB (nsB atG) tbB callerA [] s₁ H [.ref a] [.ref a] _ rfl hr env (bind s₁ (.ref a)) (.cons rfl .nil) rfl hsp
  have cd := PySem.W.codeHd_of_K inH thd
  refine codeAny_mono run (fun r s' z => ?_)
  match r, z with
  | .error _, z => exact z.elim
  | .ok .next, z => exact z.elim
  | .ok .brk, z => exact z.elim
  | .ok .cont, z => exact z.elim
  | .ok (.ret u), ⟨v, H', os, bare, un, hok', rv, q⟩ =>
    have q : v = .bl true := q
    cases q
    have rv : u = Value.bool true := rv
    cases rv
    have stays : ∀ b o, b ≠ Pt → s₁.heap.get? b = some o → s'.heap.get? b = some o := fun b o np e => by
      cases z : H b with
      | none => exact un.keep b o e z List.not_mem_nil List.not_mem_nil
      | some u =>
        obtain ⟨_, ⟨ob, xs, rfl, _⟩, _⟩ := only.rest b u np z
        have g1 := (hok b _ z).1
        have g2 := (hok' b _ (un.frzs b ob _ z)).1
        rw [e] at g1
        cases g1
        exact g2
    obtain ⟨more, ht⟩ := un.tbls Pt #[] only.tb
    have at' : s'.heap.get? Pt = some { cls := .none, data := .fields (#[] ++ more) } := hok' Pt _ ht
    refine ⟨rfl, ⟨fun b o e => ?_, fun b o e => ?_⟩, os, bare⟩
    · by_cases np : b = Pt
      · subst np
        rw [tget] at e
        cases e
        exact .inr (.inl ⟨(cd.tab tget).isCodeTable, rfl, #[], more, rfl, at'⟩)
      · exact .inl (stays b o np e)
    · by_cases np : b = Pt
      · subst np
        exact ⟨_, at'⟩
      · exact ⟨o, stays b o np e⟩
theorem glawT {k : Nat} {fa a c Pt : Addr} {fd : FuncData} {x : Str} {sp : Sp} {s₁ : Shared} {mb : Str → Option Value} {vs : List Value} {ns : List Int}
    (inH : K.In s₁.heap) (atG : s₁.heap.Ns mainGlobals mg) (hb : s₁.heap.Ns builtinsNs mb) (bB : ∀ x : Str, x ≠ "__name__" → mb x = bootBuiltins x) (lim : s₁.heap.NoLimit) (hg : s₁.gens = #[])
    (TA : TabAt K s₁.heap mg c Pt) (ha : s₁.heap.get? a = some { cls := .type "list", data := .seq vs.toArray }) (hi : IntsAre vs ns) (hl : ns.length ≤ sizeLine)
    (hr : Room k callerA) (R : ∀ base : Heap, K.In base → base.Ns mainGlobals mg → TabB base mg c Pt → GRun P w K mg base k fa fd [x] sp) (bind : ∀ (s : Shared) (u : Value), BindsTo s fd ⟨[u], []⟩ [(x, u)])
    (hsp : ∀ H : Hp, H Pt = some (.tbl #[]) → SqL K H a (ns.map V.int) → sp [.ref a] H (fun v _ => v = .bl true) E0) : TrueAt P w fa a s₁ := by
  have rv := vals_ints hi
  have nap : a ≠ Pt := by
    rintro rfl
    have e := TA.get
    rw [ha] at e
    cases e
  cases q : K.lookup a with
  | some o =>
    have e := (inH a o q).symm.trans ha
    cases e
    refine gcallT (H := upd (fun _ => none) Pt (.tbl #[])) inH atG hb bB lim hg TA hr R bind (fun b u z => ?_) ⟨upd_same, fun b u np z => ?_⟩ (hsp _ upd_same (.inr ⟨_, vs.toArray, _, q, rfl, rfl, rfl, ?_, by simpa using rv⟩))
    · by_cases np : b = Pt
      · rw [np, upd_same] at z
        cases z
        rw [np]
        exact TA.get
      · rw [upd_ne np] at z
        cases z
    · rw [upd_ne np] at z
      cases z
    · rw [List.size_toArray, hi.length]
      exact hl
  | none =>
    refine gcallT (H := upd (upd (fun _ => none) Pt (.tbl #[])) a (.frz { cls := .type "list", data := .seq vs.toArray } (.lst (ns.map V.int)))) inH atG hb bB lim hg TA hr R bind (fun b u z => ?_) ⟨?_, fun b u np z => ?_⟩ (hsp _ ?_ (.inl (.inr ⟨_, upd_same⟩)))
    · by_cases na : b = a
      · rw [na, upd_same] at z
        cases z
        rw [na]
        exact ⟨ha, by rw [List.length_map]; exact hl, vs, _, rv, ha⟩
      · rw [upd_ne na] at z
        by_cases np : b = Pt
        · rw [np, upd_same] at z
          cases z
          rw [np]
          exact TA.get
        · rw [upd_ne np] at z
          cases z
    · rw [upd_ne (fun z => nap z.symm)]
      exact upd_same
    · by_cases na : b = a
      · rw [na, upd_same] at z
        cases z
        exact ⟨na, ⟨_, _, rfl, (fun es ep d => by cases d), (fun d => by cases d)⟩, q⟩
      · rw [upd_ne na, upd_ne np] at z
        cases z
    · rw [upd_ne (fun z => nap z.symm)]
      exact upd_same
end
/-- the end of the row's proof -/
theorem gwalkT {l : PySem.W.OpenLaw} {n k : Nat} {q : Program} {loose : List Str} {XP : (Str → Option Value) → Heap → Prop} {YP : World → Heap → Prop} {d : DefRec} {K : Params → PySem.W.Frag} {ts : List Addr} {sp : World → Addr → Sp} {x : Str}
    (hn : l.most = some n) (hn2 : n ≤ sizeLine) (hdf : d.params.defaults = []) (hr : Room k callerA) (hY : ∀ (w : World) (h : Heap), YP w h → (K w.params).In h ∧ ∀ T ∈ ts, h.get? T = some { cls := .none, data := .fields #[] })
    (F : ∀ (w : World) (mg : Str → Option Value) (fa : Addr) (h : Heap), (K w.params).In h → h.Ns mainGlobals mg → mg d.name = some (.ref fa) →
      ∃ (fd : FuncData) (c Pt : Addr), Pt ∈ ts ∧ (K w.params).lookup Pt = none ∧ PySem.W.codeHdIn (K w.params) c Pt = true ∧ (∀ (s : Shared) (u : Value), BindsTo s fd ⟨[u], []⟩ [(x, u)]) ∧
        ∀ base : Heap, (K w.params).In base → base.Ns mainGlobals mg → LamX.TabB base mg c Pt → GRun l.prog w (K w.params) mg base k fa fd [x] (sp w Pt))
    (hsp : ∀ (w : World) (H : Hp) (a Pt : Addr) (ns : List Int), ns.length ≤ n → H Pt = some (.tbl #[]) → SqL (K w.params) H a (ns.map V.int) → sp w Pt [.ref a] H (fun v _ => v = .bl true) E0) :
    PySem.W.WalkO q loose XP YP l.row.toRowW d [] (fun f vs => PySem.call f vs) := by
  refine Att.attach_call hn hdf (fun w s₀ s₁ mg mb fa o pm cd doc a vs ns G Y _ _ _ hmg hobj hints hlen hg => ?_)
  obtain ⟨inK, tabs⟩ := hY w _ Y
  obtain ⟨fd, c, Pt, mem, non, hd, bind, R⟩ := F w mg fa _ inK G.T.g hmg
  exact glawT inK G.T.g G.T.b G.T.builtins G.T.nolimit hg ⟨tabs _ mem, non, hd, G.T.bmain⟩ hobj hints (Nat.le_trans hlen hn2) hr R bind (fun H hH hS => hsp w H a Pt ns hlen hH hS)
theorem all_mk {l : PySem.W.OpenLaw} {w : World} {K : PySem.W.Frag} {h : Heap} {mg : Str → Option Value} {ts tr : List Addr} {fa cT PT CG CS f0 f1 f2 f3 f4 f5 f6 f7 f8 f9 f10 f11 f12 f13 f14 f15 f16 f17 f18 f19 f20 f21 f22 f23 f24 f25 f26 f27 f28 : Addr} (inK : K.In h) (atG : h.Ns mainGlobals mg) (hfa : mg "law" = some (.ref fa))
    {odd0 and0 odd1 and1 odd2 and2 odd3 and3 odd4 and4 odd5 and5 odd6 and6 odd7 and7 odd8 and8 odd9 and9 odd10 and10 odd11 and11 odd12 and12 odd13 and13 odd14 and14 odd15 and15 odd16 and16 odd17 and17 odd18 and18 odd19 and19 odd20 and20 odd21 and21 odd22 and22 odd23 and23 odd24 and24 odd25 and25 odd26 and26 odd27 and27 odd28 and28 : Option Addr} {sld0 sld1 sld2 sld3 sld4 sld5 sld6 sld7 sld8 sld9 sld10 sld11 sld12 sld13 sld14 sld15 sld16 sld17 sld18 sld19 sld20 sld21 sld22 sld23 sld24 sld25 sld26 sld27 sld28 : Array (Option Value)} {ocd0 kVd0 dcd0 pmd0 ctd0 cdd0 ocd1 kVd1 dcd1 pmd1 ctd1 cdd1 ocd2 kVd2 dcd2 pmd2 ctd2 cdd2 ocd3 kVd3 dcd3 pmd3 ctd3 cdd3 ocd4 kVd4 dcd4 pmd4 ctd4 cdd4 ocd5 kVd5 dcd5 pmd5 ctd5 cdd5 ocd6 kVd6 dcd6 pmd6 ctd6 cdd6 ocd7 kVd7 dcd7 pmd7 ctd7 cdd7 ocd8 kVd8 dcd8 pmd8 ctd8 cdd8 ocd9 kVd9 dcd9 pmd9 ctd9 ocd10 kVd10 dcd10 pmd10 ctd10 cdd10 ocd11 kVd11 dcd11 pmd11 ctd11 cdd11 ocd12 kVd12 dcd12 pmd12 ctd12 cdd12 ocd13 kVd13 dcd13 pmd13 ctd13 cdd13 ocd14 kVd14 dcd14 pmd14 ctd14 cdd14 ocd15 kVd15 dcd15 pmd15 ctd15 cdd15 ocd16 kVd16 dcd16 pmd16 ctd16 cdd16 ocd17 kVd17 dcd17 pmd17 ctd17 cdd17 ocd18 kVd18 dcd18 pmd18 ctd18 cdd18 ocd19 kVd19 dcd19 pmd19 ctd19 cdd19 ocd20 kVd20 dcd20 pmd20 ctd20 cdd20 ocd21 kVd21 dcd21 pmd21 ctd21 cdd21 ocd22 kVd22 dcd22 pmd22 ctd22 cdd22 ocd23 kVd23 dcd23 pmd23 ctd23 cdd23 ocd24 kVd24 dcd24 pmd24 ctd24 cdd24 ocd25 kVd25 dcd25 pmd25 ctd25 cdd25 ocd26 kVd26 dcd26 pmd26 ctd26 cdd26 ocd27 kVd27 dcd27 pmd27 ctd27 cdd27 ocd28 kVd28 dcd28 pmd28 ctd28 cdd28 : Value} {t0v t1v : Tok}
    (t0 : ts = PT :: tr)
    (a0 : PySem.W.nsIn K mainGlobals "reached" = some (some (.ref f0)))
    (l0 : K.lookup f0 = some ⟨ocd0, odd0, .func (PySem.W.fnOf "reached" "reached" (defArgs sReached) (defBody sReached) (defScope sReached) .none kVd0 dcd0 pmd0 and0 cdd0 ctd0), sld0⟩)
    (c0 : PySem.W.codeIn K cdd0 "reached" = true)
    (k0 : PySem.W.keepIn K (.ref f0) = true)
    (a1 : PySem.W.nsIn K mainGlobals "sources" = some (some (.ref f1)))
    (l1 : K.lookup f1 = some ⟨ocd1, odd1, .func (PySem.W.fnOf "sources" "sources" (defArgs sSources) (defBody sSources) (defScope sSources) .none kVd1 dcd1 pmd1 and1 cdd1 ctd1), sld1⟩)
    (c1 : PySem.W.codeIn K cdd1 "sources" = true)
    (k1 : PySem.W.keepIn K (.ref f1) = true)
    (a2 : PySem.W.nsIn K mainGlobals "first_word" = some (some (.ref f2)))
    (l2 : K.lookup f2 = some ⟨ocd2, odd2, .func (PySem.W.fnOf "first_word" "first_word" (defArgs sFirst) (defBody sFirst) (defScope sFirst) .none kVd2 dcd2 pmd2 and2 cdd2 ctd2), sld2⟩)
    (c2 : PySem.W.codeIn K cdd2 "first_word" = true)
    (k2 : PySem.W.keepIn K (.ref f2) = true)
    (a3 : PySem.W.nsIn K mainGlobals "spelled" = some (some (.ref f3)))
    (l3 : K.lookup f3 = some ⟨ocd3, odd3, .func (PySem.W.fnOf "spelled" "spelled" (defArgs sSpelled) (defBody sSpelled) (defScope sSpelled) .none kVd3 dcd3 pmd3 and3 cdd3 ctd3), sld3⟩)
    (c3 : PySem.W.codeIn K cdd3 "spelled" = true)
    (k3 : PySem.W.keepIn K (.ref f3) = true)
    (a4 : PySem.W.nsIn K mainGlobals "bits" = some (some (.ref f4)))
    (l4 : K.lookup f4 = some ⟨ocd4, odd4, .func (PySem.W.fnOf "bits" "bits" (defArgs sBits) (defBody sBits) (defScope sBits) .none kVd4 dcd4 pmd4 and4 cdd4 ctd4), sld4⟩)
    (c4 : PySem.W.codeIn K cdd4 "bits" = true)
    (k4 : PySem.W.keepIn K (.ref f4) = true)
    (a5 : PySem.W.nsIn K mainGlobals "joined_bits" = some (some (.ref f5)))
    (l5 : K.lookup f5 = some ⟨ocd5, odd5, .func (PySem.W.fnOf "joined_bits" "joined_bits" (defArgs sJoined) (defBody sJoined) (defScope sJoined) .none kVd5 dcd5 pmd5 and5 cdd5 ctd5), sld5⟩)
    (c5 : PySem.W.codeIn K cdd5 "joined_bits" = true)
    (k5 : PySem.W.keepIn K (.ref f5) = true)
    (a6 : PySem.W.nsIn K mainGlobals "is_of" = some (some (.ref f6)))
    (l6 : K.lookup f6 = some ⟨ocd6, odd6, .func (PySem.W.fnOf "is_of" "is_of" (defArgs sIsOf) (defBody sIsOf) (defScope sIsOf) .none kVd6 dcd6 pmd6 and6 cdd6 ctd6), sld6⟩)
    (c6 : PySem.W.codeIn K cdd6 "is_of" = true)
    (k6 : PySem.W.keepIn K (.ref f6) = true)
    (a7 : PySem.W.nsIn K mainGlobals "completed" = some (some (.ref f7)))
    (l7 : K.lookup f7 = some ⟨ocd7, odd7, .func (PySem.W.fnOf "completed" "completed" (defArgs sCompl) (defBody sCompl) (defScope sCompl) .none kVd7 dcd7 pmd7 and7 cdd7 ctd7), sld7⟩)
    (c7 : PySem.W.codeIn K cdd7 "completed" = true)
    (k7 : PySem.W.keepIn K (.ref f7) = true)
    (a8 : PySem.W.nsIn K mainGlobals "backwards" = some (some (.ref f8)))
    (l8 : K.lookup f8 = some ⟨ocd8, odd8, .func (PySem.W.fnOf "backwards" "backwards" (defArgs sBack) (defBody sBack) (defScope sBack) .none kVd8 dcd8 pmd8 and8 cdd8 ctd8), sld8⟩)
    (c8 : PySem.W.codeIn K cdd8 "backwards" = true)
    (k8 : PySem.W.keepIn K (.ref f8) = true)
    (a9 : PySem.W.nsIn K mainGlobals "apart" = some (some (.ref f9)))
    (l9 : K.lookup f9 = some ⟨ocd9, odd9, .func (PySem.W.fnOf "apart" "apart" (defArgs sApartP) (defBody sApartP) (defScope sApartP) .none kVd9 dcd9 pmd9 and9 (.ref cT) ctd9), sld9⟩)
    (c9 : PySem.W.codeIn K (.ref cT) "apart" = true)
    (k9 : PySem.W.keepIn K (.ref f9) = true)
    (a10 : PySem.W.nsIn K mainGlobals "_law_deck" = some (some (.ref f10)))
    (l10 : K.lookup f10 = some ⟨ocd10, odd10, .func (PySem.W.fnOf "_law_deck" "_law_deck" (defArgs sDeck) (defBody sDeck) (defScope sDeck) .none kVd10 dcd10 pmd10 and10 cdd10 ctd10), sld10⟩)
    (c10 : PySem.W.codeIn K cdd10 "_law_deck" = true)
    (k10 : PySem.W.keepIn K (.ref f10) = true)
    (a11 : PySem.W.nsIn K mainGlobals "_law_draw" = some (some (.ref f11)))
    (l11 : K.lookup f11 = some ⟨ocd11, odd11, .func (PySem.W.fnOf "_law_draw" "_law_draw" (defArgs sDraw) (defBody sDraw) (defScope sDraw) .none kVd11 dcd11 pmd11 and11 cdd11 ctd11), sld11⟩)
    (c11 : PySem.W.codeIn K cdd11 "_law_draw" = true)
    (k11 : PySem.W.keepIn K (.ref f11) = true)
    (a12 : PySem.W.nsIn K mainGlobals "_law_one" = some (some (.ref f12)))
    (l12 : K.lookup f12 = some ⟨ocd12, odd12, .func (PySem.W.fnOf "_law_one" "_law_one" (defArgs sOne) (defBody sOne) (defScope sOne) .none kVd12 dcd12 pmd12 and12 cdd12 ctd12), sld12⟩)
    (c12 : PySem.W.codeIn K cdd12 "_law_one" = true)
    (k12 : PySem.W.keepIn K (.ref f12) = true)
    (a13 : PySem.W.nsIn K mainGlobals "_law_machine" = some (some (.ref f13)))
    (l13 : K.lookup f13 = some ⟨ocd13, odd13, .func (PySem.W.fnOf "_law_machine" "_law_machine" (defArgs sMach) (defBody sMach) (defScope sMach) .none kVd13 dcd13 pmd13 and13 cdd13 ctd13), sld13⟩)
    (c13 : PySem.W.codeIn K cdd13 "_law_machine" = true)
    (k13 : PySem.W.keepIn K (.ref f13) = true)
    (a14 : PySem.W.nsIn K mainGlobals "_law_next" = some (some (.ref f14)))
    (l14 : K.lookup f14 = some ⟨ocd14, odd14, .func (PySem.W.fnOf "_law_next" "_law_next" (defArgs sNext) (defBody sNext) (defScope sNext) .none kVd14 dcd14 pmd14 and14 cdd14 ctd14), sld14⟩)
    (c14 : PySem.W.codeIn K cdd14 "_law_next" = true)
    (k14 : PySem.W.keepIn K (.ref f14) = true)
    (a15 : PySem.W.nsIn K mainGlobals "_law_end" = some (some (.ref f15)))
    (l15 : K.lookup f15 = some ⟨ocd15, odd15, .func (PySem.W.fnOf "_law_end" "_law_end" (defArgs sEnd) (defBody sEnd) (defScope sEnd) .none kVd15 dcd15 pmd15 and15 cdd15 ctd15), sld15⟩)
    (c15 : PySem.W.codeIn K cdd15 "_law_end" = true)
    (k15 : PySem.W.keepIn K (.ref f15) = true)
    (a16 : PySem.W.nsIn K mainGlobals "_law_met" = some (some (.ref f16)))
    (l16 : K.lookup f16 = some ⟨ocd16, odd16, .func (PySem.W.fnOf "_law_met" "_law_met" (defArgs sMet) (defBody sMet) (defScope sMet) .none kVd16 dcd16 pmd16 and16 cdd16 ctd16), sld16⟩)
    (c16 : PySem.W.codeIn K cdd16 "_law_met" = true)
    (k16 : PySem.W.keepIn K (.ref f16) = true)
    (a17 : PySem.W.nsIn K mainGlobals "_law_open" = some (some (.ref f17)))
    (l17 : K.lookup f17 = some ⟨ocd17, odd17, .func (PySem.W.fnOf "_law_open" "_law_open" (defArgs sOpen) (defBody sOpen) (defScope sOpen) .none kVd17 dcd17 pmd17 and17 cdd17 ctd17), sld17⟩)
    (c17 : PySem.W.codeIn K cdd17 "_law_open" = true)
    (k17 : PySem.W.keepIn K (.ref f17) = true)
    (a18 : PySem.W.nsIn K mainGlobals "_law_least" = some (some (.ref f18)))
    (l18 : K.lookup f18 = some ⟨ocd18, odd18, .func (PySem.W.fnOf "_law_least" "_law_least" (defArgs sLeast) (defBody sLeast) (defScope sLeast) .none kVd18 dcd18 pmd18 and18 cdd18 ctd18), sld18⟩)
    (c18 : PySem.W.codeIn K cdd18 "_law_least" = true)
    (k18 : PySem.W.keepIn K (.ref f18) = true)
    (a19 : PySem.W.nsIn K mainGlobals "_law_are_apart" = some (some (.ref f19)))
    (l19 : K.lookup f19 = some ⟨ocd19, odd19, .func (PySem.W.fnOf "_law_are_apart" "_law_are_apart" (defArgs sApart) (defBody sApart) (defScope sApart) .none kVd19 dcd19 pmd19 and19 cdd19 ctd19), sld19⟩)
    (c19 : PySem.W.codeIn K cdd19 "_law_are_apart" = true)
    (k19 : PySem.W.keepIn K (.ref f19) = true)
    (a20 : PySem.W.nsIn K mainGlobals "_law_is_of" = some (some (.ref f20)))
    (l20 : K.lookup f20 = some ⟨ocd20, odd20, .func (PySem.W.fnOf "_law_is_of" "_law_is_of" (defArgs sIsOfL) (defBody sIsOfL) (defScope sIsOfL) .none kVd20 dcd20 pmd20 and20 cdd20 ctd20), sld20⟩)
    (c20 : PySem.W.codeIn K cdd20 "_law_is_of" = true)
    (k20 : PySem.W.keepIn K (.ref f20) = true)
    (a21 : PySem.W.nsIn K mainGlobals "_law_words" = some (some (.ref f21)))
    (l21 : K.lookup f21 = some ⟨ocd21, odd21, .func (PySem.W.fnOf "_law_words" "_law_words" (defArgs sWords) (defBody sWords) (defScope sWords) .none kVd21 dcd21 pmd21 and21 cdd21 ctd21), sld21⟩)
    (c21 : PySem.W.codeIn K cdd21 "_law_words" = true)
    (k21 : PySem.W.keepIn K (.ref f21) = true)
    (a22 : PySem.W.nsIn K mainGlobals "_law_turned" = some (some (.ref f22)))
    (l22 : K.lookup f22 = some ⟨ocd22, odd22, .func (PySem.W.fnOf "_law_turned" "_law_turned" (defArgs sTurned) (defBody sTurned) (defScope sTurned) .none kVd22 dcd22 pmd22 and22 cdd22 ctd22), sld22⟩)
    (c22 : PySem.W.codeIn K cdd22 "_law_turned" = true)
    (k22 : PySem.W.keepIn K (.ref f22) = true)
    (a23 : PySem.W.nsIn K mainGlobals "_law_parting" = some (some (.ref f23)))
    (l23 : K.lookup f23 = some ⟨ocd23, odd23, .func (PySem.W.fnOf "_law_parting" "_law_parting" (defArgs sParting) (defBody sParting) (defScope sParting) .none kVd23 dcd23 pmd23 and23 cdd23 ctd23), sld23⟩)
    (c23 : PySem.W.codeIn K cdd23 "_law_parting" = true)
    (k23 : PySem.W.keepIn K (.ref f23) = true)
    (a24 : PySem.W.nsIn K mainGlobals "_law_far" = some (some (.ref f24)))
    (l24 : K.lookup f24 = some ⟨ocd24, odd24, .func (PySem.W.fnOf "_law_far" "_law_far" (defArgs sFar) (defBody sFar) (defScope sFar) .none kVd24 dcd24 pmd24 and24 cdd24 ctd24), sld24⟩)
    (c24 : PySem.W.codeIn K cdd24 "_law_far" = true)
    (k24 : PySem.W.keepIn K (.ref f24) = true)
    (a25 : PySem.W.nsIn K mainGlobals "_law_long" = some (some (.ref f25)))
    (l25 : K.lookup f25 = some ⟨ocd25, odd25, .func (PySem.W.fnOf "_law_long" "_law_long" (defArgs sLong) (defBody sLong) (defScope sLong) .none kVd25 dcd25 pmd25 and25 cdd25 ctd25), sld25⟩)
    (c25 : PySem.W.codeIn K cdd25 "_law_long" = true)
    (k25 : PySem.W.keepIn K (.ref f25) = true)
    (a26 : PySem.W.nsIn K mainGlobals "_law_long_right" = some (some (.ref f26)))
    (l26 : K.lookup f26 = some ⟨ocd26, odd26, .func (PySem.W.fnOf "_law_long_right" "_law_long_right" (defArgs sLongR) (defBody sLongR) (defScope sLongR) .none kVd26 dcd26 pmd26 and26 cdd26 ctd26), sld26⟩)
    (c26 : PySem.W.codeIn K cdd26 "_law_long_right" = true)
    (k26 : PySem.W.keepIn K (.ref f26) = true)
    (a27 : PySem.W.nsIn K mainGlobals "_law_behind" = some (some (.ref f27)))
    (l27 : K.lookup f27 = some ⟨ocd27, odd27, .func (PySem.W.fnOf "_law_behind" "_law_behind" (defArgs sBehind) (defBody sBehind) (defScope sBehind) .none kVd27 dcd27 pmd27 and27 cdd27 ctd27), sld27⟩)
    (c27 : PySem.W.codeIn K cdd27 "_law_behind" = true)
    (k27 : PySem.W.keepIn K (.ref f27) = true)
    (a28 : PySem.W.nsIn K mainGlobals "law" = some (some (.ref f28)))
    (l28 : K.lookup f28 = some ⟨ocd28, odd28, .func (PySem.W.fnOf "law" "law" (defArgs sLaw) (defBody sLaw) (defScope sLaw) .none kVd28 dcd28 pmd28 and28 cdd28 ctd28), sld28⟩)
    (c28 : PySem.W.codeIn K cdd28 "law" = true)
    (k28 : PySem.W.keepIn K (.ref f28) = true)
    (z0 : PySem.W.nsIn K mainGlobals "len" = some none)
    (z1 : PySem.W.nsIn K mainGlobals "int" = some none)
    (z2 : PySem.W.nsIn K mainGlobals "range" = some none)
    (z3 : PySem.W.nsIn K mainGlobals "tuple" = some none)
    (z4 : PySem.W.nsIn K mainGlobals "list" = some none)
    (z5 : PySem.W.nsIn K mainGlobals "all" = some none)
    (z6 : PySem.W.nsIn K mainGlobals "abs" = some none)
    (z7 : PySem.W.nsIn K mainGlobals "bool" = some none)
    (z8 : PySem.W.nsIn K mainGlobals "repr" = some none)
    (z9 : PySem.W.nsIn K mainGlobals "any" = some none)
    (z10 : PySem.W.nsIn K mainGlobals "enumerate" = some none)
    (z11 : PySem.W.nsIn K mainGlobals "max" = some none)
    (z12 : PySem.W.nsIn K mainGlobals "zip" = some none)
    (z13 : PySem.W.nsIn K mainGlobals "dict" = some none)
    (z14 : PySem.W.nsIn K mainGlobals "isinstance" = some none)
    (m0 : PySem.W.nsIn K mainGlobals "MAX_ROWS" = some (some (.int 400 t0v)))
    (m1 : PySem.W.nsIn K mainGlobals "LETTERS" = some (some (.str "abc" t1v)))
    (th : PySem.W.codeHdIn K cT PT = true)
    (tn : K.lookup PT = none)
    (tg : mainGlobals ≠ PT)
    (gt : PySem.W.nsIn K mainGlobals "TooGreat" = some (some (.ref CG)))
    (gs : PySem.W.nsIn K mainGlobals "ShelfError" = some (some (.ref CS)))
    (x0 : PySem.W.excIn K CG [.type "ValueError", .type "Exception", .type "BaseException", .type "object"] "ValueError.__new__" = true)
    (x1 : PySem.W.keepIn K (.ref CG) = true)
    (x2 : PySem.W.subIn K (.ref CG) (.type "BaseException") = some true)
    (x3 : PySem.W.typeIn K (.ref CG) = some (.type "type"))
    (gg : PySem.W.exmOne K (.ref CG) (.ref CG) = some true)
    (ks : PySem.W.kitOne K (.ref CG) (.ref CS) = some true)
    (e1 : PySem.W.findIn K (.ref CG) "__getattribute__" = some (some (.builtin "BaseException.__getattribute__")))
    (e2 : PySem.W.findIn K (.ref CG) "__getattr__" = some none)
    (e3 : PySem.W.subIn K (.ref CG) (.type "BaseException") = some true)
    (e4 : PySem.W.hasDictIn K CG = true)
    (e5 : PySem.W.findIn K (.ref CG) "__class__" = some (some (.builtin "object.__class__")))
    (e6 : PySem.W.specialIn K (.builtin "object.__class__") "__get__" = some (some (.builtin "getset_descriptor.__get__")))
    (e7 : PySem.W.takesIn K (.builtin "object.__class__") = some true)
    (e8 : PySem.W.mroIn K CG (.type "object") = some true) :
    ∃ (fd : FuncData) (c Pt : Addr), Pt ∈ ts ∧ K.lookup Pt = none ∧ PySem.W.codeHdIn K c Pt = true ∧ (∀ (s : Shared) (v : Value), BindsTo s fd ⟨[v], []⟩ [("_law_script", v)]) ∧
      ∀ base : Heap, K.In base → base.Ns mainGlobals mg → LamX.TabB base mg c Pt → GRun l.prog w K mg base 5 fa fd ["_law_script"] (spLaw K Pt) := by
  have e := hfa.symm.trans (PySem.W.mg_of inK atG a28)
  cases e
  have T : Mg mg := ⟨PySem.W.mg_none_of inK atG z0, PySem.W.mg_none_of inK atG z1, PySem.W.mg_none_of inK atG z2, PySem.W.mg_none_of inK atG z3, PySem.W.mg_none_of inK atG z4, PySem.W.mg_none_of inK atG z5, PySem.W.mg_none_of inK atG z6, PySem.W.mg_none_of inK atG z7, PySem.W.mg_none_of inK atG z8, PySem.W.mg_none_of inK atG z9, PySem.W.mg_none_of inK atG z10, PySem.W.mg_none_of inK atG z11, PySem.W.mg_none_of inK atG z12, PySem.W.mg_none_of inK atG z13, ⟨_, PySem.W.mg_of inK atG m0⟩, ⟨_, PySem.W.mg_of inK atG m1⟩, PySem.W.mg_none_of inK atG z14⟩
  have TG : ErT K mg "TooGreat" CG := ⟨x0, PySem.W.mg_of inK atG gt, x1, x2, x3⟩
  have F0 := fun_mk (st := sReached) l0 c0 k0
  have b0 := F0.binds (ps := ["rows"]) fun _ _ _ _ _ _ us hl => match us, hl with | [_], _ => rfl
  have g0 := PySem.W.mg_of inK atG a0
  have F1 := fun_mk (st := sSources) l1 c1 k1
  have b1 := F1.binds (ps := ["letters", "rows", "order"]) fun _ _ _ _ _ _ us hl => match us, hl with | [_, _, _], _ => rfl
  have g1 := PySem.W.mg_of inK atG a1
  have F2 := fun_mk (st := sFirst) l2 c2 k2
  have b2 := F2.binds (ps := ["start", "goes", "wanted"]) fun _ _ _ _ _ _ us hl => match us, hl with | [_, _, _], _ => rfl
  have g2 := PySem.W.mg_of inK atG a2
  have F3 := fun_mk (st := sSpelled) l3 c3 k3
  have b3 := F3.binds (ps := ["came", "node"]) fun _ _ _ _ _ _ us hl => match us, hl with | [_, _], _ => rfl
  have g3 := PySem.W.mg_of inK atG a3
  have F4 := fun_mk (st := sBits) l4 c4 k4
  have b4 := F4.binds (ps := ["states"]) fun _ _ _ _ _ _ us hl => match us, hl with | [_], _ => rfl
  have g4 := PySem.W.mg_of inK atG a4
  have F5 := fun_mk (st := sJoined) l5 c5 k5
  have b5 := F5.binds (ps := ["ways", "held"]) fun _ _ _ _ _ _ us hl => match us, hl with | [_, _], _ => rfl
  have g5 := PySem.W.mg_of inK atG a5
  have F6 := fun_mk (st := sIsOf) l6 c6 k6
  have b6 := F6.binds (ps := ["machine", "word"]) fun _ _ _ _ _ _ us hl => match us, hl with | [_, _], _ => rfl
  have g6 := PySem.W.mg_of inK atG a6
  have F7 := fun_mk (st := sCompl) l7 c7 k7
  have b7 := F7.binds (ps := ["machine"]) fun _ _ _ _ _ _ us hl => match us, hl with | [_], _ => rfl
  have g7 := PySem.W.mg_of inK atG a7
  have F8 := fun_mk (st := sBack) l8 c8 k8
  have b8 := F8.binds (ps := ["machine"]) fun _ _ _ _ _ _ us hl => match us, hl with | [_], _ => rfl
  have g8 := PySem.W.mg_of inK atG a8
  have F9 := fun_mk (st := sApartP) l9 c9 k9
  have b9 := F9.binds (ps := ["one", "other"]) fun _ _ _ _ _ _ us hl => match us, hl with | [_, _], _ => rfl
  have g9 := PySem.W.mg_of inK atG a9
  have F10 := fun_mk (st := sDeck) l10 c10 k10
  have b10 := F10.binds (ps := ["_law_script"]) fun _ _ _ _ _ _ us hl => match us, hl with | [_], _ => rfl
  have g10 := PySem.W.mg_of inK atG a10
  have F11 := fun_mk (st := sDraw) l11 c11 k11
  have b11 := F11.binds (ps := ["_law_deck_here", "_law_many"]) fun _ _ _ _ _ _ us hl => match us, hl with | [_, _], _ => rfl
  have g11 := PySem.W.mg_of inK atG a11
  have F12 := fun_mk (st := sOne) l12 c12 k12
  have b12 := F12.binds (ps := ["_law_deck_here", "_law_items"]) fun _ _ _ _ _ _ us hl => match us, hl with | [_, _], _ => rfl
  have g12 := PySem.W.mg_of inK atG a12
  have F13 := fun_mk (st := sMach) l13 c13 k13
  have b13 := F13.binds (ps := ["_law_deck_here", "_law_letters", "_law_most"]) fun _ _ _ _ _ _ us hl => match us, hl with | [_, _, _], _ => rfl
  have g13 := PySem.W.mg_of inK atG a13
  have F14 := fun_mk (st := sNext) l14 c14 k14
  have b14 := F14.binds (ps := ["_law_machine_here", "_law_state", "_law_letter"]) fun _ _ _ _ _ _ us hl => match us, hl with | [_, _, _], _ => rfl
  have g14 := PySem.W.mg_of inK atG a14
  have F15 := fun_mk (st := sEnd) l15 c15 k15
  have b15 := F15.binds (ps := ["_law_machine_here", "_law_state"]) fun _ _ _ _ _ _ us hl => match us, hl with | [_, _], _ => rfl
  have g15 := PySem.W.mg_of inK atG a15
  have F16 := fun_mk (st := sMet) l16 c16 k16
  have b16 := F16.binds (ps := ["_law_rows"]) fun _ _ _ _ _ _ us hl => match us, hl with | [_], _ => rfl
  have g16 := PySem.W.mg_of inK atG a16
  have F17 := fun_mk (st := sOpen) l17 c17 k17
  have b17 := F17.binds (ps := ["_law_rows", "_law_ends"]) fun _ _ _ _ _ _ us hl => match us, hl with | [_, _], _ => rfl
  have g17 := PySem.W.mg_of inK atG a17
  have F18 := fun_mk (st := sLeast) l18 c18 k18
  have b18 := F18.binds (ps := ["_law_letters", "_law_rows", "_law_ends"]) fun _ _ _ _ _ _ us hl => match us, hl with | [_, _, _], _ => rfl
  have g18 := PySem.W.mg_of inK atG a18
  have F19 := fun_mk (st := sApart) l19 c19 k19
  have b19 := F19.binds (ps := ["_law_rows", "_law_ends", "_law_alive", "_law_held", "_law_pair"]) fun _ _ _ _ _ _ us hl => match us, hl with | [_, _, _, _, _], _ => rfl
  have g19 := PySem.W.mg_of inK atG a19
  have F20 := fun_mk (st := sIsOfL) l20 c20 k20
  have b20 := F20.binds (ps := ["_law_machine_here", "_law_word"]) fun _ _ _ _ _ _ us hl => match us, hl with | [_, _], _ => rfl
  have g20 := PySem.W.mg_of inK atG a20
  have F21 := fun_mk (st := sWords) l21 c21 k21
  have b21 := F21.binds (ps := ["_law_letters", "_law_length"]) fun _ _ _ _ _ _ us hl => match us, hl with | [_, _], _ => rfl
  have g21 := PySem.W.mg_of inK atG a21
  have F22 := fun_mk (st := sTurned) l22 c22 k22
  have b22 := F22.binds (ps := ["_law_machine_here"]) fun _ _ _ _ _ _ us hl => match us, hl with | [_], _ => rfl
  have g22 := PySem.W.mg_of inK atG a22
  have F23 := fun_mk (st := sParting) l23 c23 k23
  have b23 := F23.binds (ps := ["_law_one_here", "_law_other"]) fun _ _ _ _ _ _ us hl => match us, hl with | [_, _], _ => rfl
  have g23 := PySem.W.mg_of inK atG a23
  have F24 := fun_mk (st := sFar) l24 c24 k24
  have b24 := F24.binds (ps := ["_law_place"]) fun _ _ _ _ _ _ us hl => match us, hl with | [_], _ => rfl
  have g24 := PySem.W.mg_of inK atG a24
  have F25 := fun_mk (st := sLong) l25 c25 k25
  have b25 := F25.binds (ps := ["_law_many", "_law_is_ring"]) fun _ _ _ _ _ _ us hl => match us, hl with | [_, _], _ => rfl
  have g25 := PySem.W.mg_of inK atG a25
  have F26 := fun_mk (st := sLongR) l26 c26 k26
  have b26 := F26.binds (ps := ["_law_deck_here"]) fun _ _ _ _ _ _ us hl => match us, hl with | [_], _ => rfl
  have g26 := PySem.W.mg_of inK atG a26
  have F27 := fun_mk (st := sBehind) l27 c27 k27
  have b27 := F27.binds (ps := ["_law_one_here", "_law_other"]) fun _ _ _ _ _ _ us hl => match us, hl with | [_, _], _ => rfl
  have g27 := PySem.W.mg_of inK atG a27
  have F28 := fun_mk (st := sLaw) l28 c28 k28
  have FT : FunT K "apart" "apart" sApartP f9 _ cT PT := ⟨⟨_, _, _, _, _, _, _, _, rfl, l9, c9⟩, k9, th, tg⟩
  refine ⟨PySem.W.fnOf "law" "law" (defArgs sLaw) (defBody sLaw) (defScope sLaw) .none kVd28 dcd28 pmd28 and28 cdd28 ctd28, cT, PT, by rw [t0]; exact List.mem_cons_self, tn, th, fun s v => .of_eq rfl, fun base _ _ TBp => ?_⟩
  have RE := ok_reached (P := l.prog) (w := w) (mg := mg) (base := base) F0  T
  have SO := ok_sources (P := l.prog) (w := w) (mg := mg) (base := base) F1  T
  have SP := ok_spelled (P := l.prog) (w := w) (mg := mg) (base := base) F3  T
  have FW := ok_first F2 SP F3 b3 g3 T
  have BT := ok_bits (P := l.prog) (w := w) (mg := mg) (base := base) F4  T
  have JB := ok_joined (P := l.prog) (w := w) (mg := mg) (base := base) F5  T
  have IO := ok_isOf (P := l.prog) (w := w) (mg := mg) (base := base) F6  T
  have CM := ok_compl (P := l.prog) (w := w) (mg := mg) (base := base) F7  T
  have BK := ok_back F8 RE F0 b0 g0 SO F1 b1 g1 BT F4 b4 g4 JB F5 b5 g5 T TG
  have AP := ok_apartP FT TBp CM F7 b7 g7 FW F2 b2 g2 T
  have DK := ok_deck (P := l.prog) (w := w) (mg := mg) (base := base) F10 T.abs
  have D := ok_draw (P := l.prog) (w := w) (mg := mg) (base := base) F11 T.len T.int
  have O := ok_one F12 D F11 b11 g11 T.len
  have MC := ok_mach F13 D F11 b11 g11 O F12 b12 g12 T
  have NX := ok_next (P := l.prog) (w := w) (mg := mg) (base := base) F14  T
  have EN := ok_end (P := l.prog) (w := w) (mg := mg) (base := base) F15  T
  have MT := ok_metN (P := l.prog) (w := w) (mg := mg) (base := base) F16  T
  have OP := ok_open (P := l.prog) (w := w) (mg := mg) (base := base) F17  T
  have AA := ok_apart (P := l.prog) (w := w) (mg := mg) (base := base) F19  T
  have LE := ok_least F18 OP F17 b17 g17 MT F16 b16 g16 AA F19 b19 g19 T
  have IL := ok_isOfL F20 NX F14 b14 g14 EN F15 b15 g15 T
  have WO := ok_words (P := l.prog) (w := w) (mg := mg) (base := base) F21  T
  have TU := ok_turned F22 LE F18 b18 g18 T
  have PA := ok_parting F23 NX F14 b14 g14 EN F15 b15 g15 T
  have FA := ok_far (P := l.prog) (w := w) (mg := mg) (base := base) F24  T
  have LG := ok_long (P := l.prog) (w := w) (mg := mg) (base := base) F25  T
  have LR := ok_longR F26 D F11 b11 g11 O F12 b12 g12 LG F25 b25 g25 AP k9 b9 g9 BK F8 b8 g8 T
  have BE := ok_behind (P := l.prog) (w := w) (mg := mg) (base := base) F27  T
  exact ok_law F28 DK F10 b10 g10 D F11 b11 g11 LR F26 b26 g26 MC F13 b13 g13 LE F18 b18 g18 TU F22 b22 g22 BK F8 b8 g8 WO F21 b21 g21 IO F6 b6 g6 IL F20 b20 g20 PA F23 b23 g23 AP k9 b9 g9 FA F24 b24 g24 BE F27 b27 g27 TG.gP (PySem.W.mg_of inK atG gs) gg ⟨e1, e2, e3, e4, e5, e6, e7, e8⟩ ks T
end Ver
open PySem PySem.W PyProof.Rows in
set_option maxRecDepth 100000 in
set_option maxHeartbeats 0 in
theorem PySem.Challenge.cw_sortedshelves_k15_words_read_backwards_a_holds : PySem.Challenge.rw_sortedshelves_k15_words_read_backwards_a.Holds := by
  w_on; o_law; k_head; (case hw => w_witness2)
  k_fill
  refine Ver.gwalkT (l := PySem.Challenge.rw_sortedshelves_k15_words_read_backwards_a) (n := 63) (k := 5) (x := "_law_script") (sp := fun w Pt => Ver.spLaw _ Pt) rfl (by decide) rfl ⟨rfl, by decide, by decide⟩ (fun w h Y => ⟨PySem.W.km_in_of Y, PySem.W.km_tabs_of Y⟩) ?F (fun _ _ a Pt ns hl hH hS => ⟨a, ns, rfl, hS, hl, NdefX.TabN.nil hH, fun _ => rfl⟩)
  case F =>
    intro w mg fa h inK atG hmg
    refine' Ver.all_mk inK atG hmg ?t0 ?a0 ?l0 ?c0 ?k0 ?a1 ?l1 ?c1 ?k1 ?a2 ?l2 ?c2 ?k2 ?a3 ?l3 ?c3 ?k3 ?a4 ?l4 ?c4 ?k4 ?a5 ?l5 ?c5 ?k5 ?a6 ?l6 ?c6 ?k6 ?a7 ?l7 ?c7 ?k7 ?a8 ?l8 ?c8 ?k8 ?a9 ?l9 ?c9 ?k9 ?a10 ?l10 ?c10 ?k10 ?a11 ?l11 ?c11 ?k11 ?a12 ?l12 ?c12 ?k12 ?a13 ?l13 ?c13 ?k13 ?a14 ?l14 ?c14 ?k14 ?a15 ?l15 ?c15 ?k15 ?a16 ?l16 ?c16 ?k16 ?a17 ?l17 ?c17 ?k17 ?a18 ?l18 ?c18 ?k18 ?a19 ?l19 ?c19 ?k19 ?a20 ?l20 ?c20 ?k20 ?a21 ?l21 ?c21 ?k21 ?a22 ?l22 ?c22 ?k22 ?a23 ?l23 ?c23 ?k23 ?a24 ?l24 ?c24 ?k24 ?a25 ?l25 ?c25 ?k25 ?a26 ?l26 ?c26 ?k26 ?a27 ?l27 ?c27 ?k27 ?a28 ?l28 ?c28 ?k28 ?z0 ?z1 ?z2 ?z3 ?z4 ?z5 ?z6 ?z7 ?z8 ?z9 ?z10 ?z11 ?z12 ?z13 ?z14 ?m0 ?m1 ?th ?tn ?tg ?gt ?gs ?x0 ?x1 ?x2 ?x3 ?gg ?ks ?e1 ?e2 ?e3 ?e4 ?e5 ?e6 ?e7 ?e8
    (case t0 => exact rfl)
    (case a0 => k_is)
    (case l0 => k_is)
    (case c0 => k_is)
    (case k0 => k_is)
    (case a1 => k_is)
    (case l1 => k_is)
    (case c1 => k_is)
    (case k1 => k_is)
    (case a2 => k_is)
    (case l2 => k_is)
    (case c2 => k_is)
    (case k2 => k_is)
    (case a3 => k_is)
    (case l3 => k_is)
    (case c3 => k_is)
    (case k3 => k_is)
    (case a4 => k_is)
    (case l4 => k_is)
    (case c4 => k_is)
    (case k4 => k_is)
    (case a5 => k_is)
    (case l5 => k_is)
    (case c5 => k_is)
    (case k5 => k_is)
    (case a6 => k_is)
    (case l6 => k_is)
    (case c6 => k_is)
    (case k6 => k_is)
    (case a7 => k_is)
    (case l7 => k_is)
    (case c7 => k_is)
    (case k7 => k_is)
    (case a8 => k_is)
    (case l8 => k_is)
    (case c8 => k_is)
    (case k8 => k_is)
    (case a9 => k_is)
    (case l9 => k_is)
    (case c9 => k_is)
    (case k9 => k_is)
    (case a10 => k_is)
    (case l10 => k_is)
    (case c10 => k_is)
    (case k10 => k_is)
    (case a11 => k_is)
    (case l11 => k_is)
    (case c11 => k_is)
    (case k11 => k_is)
    (case a12 => k_is)
    (case l12 => k_is)
    (case c12 => k_is)
    (case k12 => k_is)
    (case a13 => k_is)
    (case l13 => k_is)
    (case c13 => k_is)
    (case k13 => k_is)
    (case a14 => k_is)
    (case l14 => k_is)
    (case c14 => k_is)
    (case k14 => k_is)
    (case a15 => k_is)
    (case l15 => k_is)
    (case c15 => k_is)
    (case k15 => k_is)
    (case a16 => k_is)
    (case l16 => k_is)
    (case c16 => k_is)
    (case k16 => k_is)
    (case a17 => k_is)
    (case l17 => k_is)
    (case c17 => k_is)
    (case k17 => k_is)
    (case a18 => k_is)
    (case l18 => k_is)
    (case c18 => k_is)
    (case k18 => k_is)
    (case a19 => k_is)
    (case l19 => k_is)
    (case c19 => k_is)
    (case k19 => k_is)
    (case a20 => k_is)
    (case l20 => k_is)
    (case c20 => k_is)
    (case k20 => k_is)
    (case a21 => k_is)
    (case l21 => k_is)
    (case c21 => k_is)
    (case k21 => k_is)
    (case a22 => k_is)
    (case l22 => k_is)
    (case c22 => k_is)
    (case k22 => k_is)
    (case a23 => k_is)
    (case l23 => k_is)
    (case c23 => k_is)
    (case k23 => k_is)
    (case a24 => k_is)
    (case l24 => k_is)
    (case c24 => k_is)
    (case k24 => k_is)
    (case a25 => k_is)
    (case l25 => k_is)
    (case c25 => k_is)
    (case k25 => k_is)
    (case a26 => k_is)
    (case l26 => k_is)
    (case c26 => k_is)
    (case k26 => k_is)
    (case a27 => k_is)
    (case l27 => k_is)
    (case c27 => k_is)
    (case k27 => k_is)
    (case a28 => k_is)
    (case l28 => k_is)
    (case c28 => k_is)
    (case k28 => k_is)
    (case z0 => k_is)
    (case z1 => k_is)
    (case z2 => k_is)
    (case z3 => k_is)
    (case z4 => k_is)
    (case z5 => k_is)
    (case z6 => k_is)
    (case z7 => k_is)
    (case z8 => k_is)
    (case z9 => k_is)
    (case z10 => k_is)
    (case z11 => k_is)
    (case z12 => k_is)
    (case z13 => k_is)
    (case z14 => k_is)
    (case m0 => k_is)
    (case m1 => k_is)
    (case th => kernel_rfl)
    (case tn => kernel_rfl)
    (case tg => decide)
    (case gt => k_is)
    (case gs => k_is)
    (case x0 => first | k_is | rfl | kernel_rfl)
    (case x1 => first | k_is | rfl | kernel_rfl)
    (case x2 => first | k_is | rfl | kernel_rfl)
    (case x3 => first | k_is | rfl | kernel_rfl)
    (case gg => first | k_is | rfl | kernel_rfl)
    (case ks => first | k_is | rfl | kernel_rfl)
    (case e1 => first | k_is | rfl | kernel_rfl)
    (case e2 => first | k_is | rfl | kernel_rfl)
    (case e3 => first | k_is | rfl | kernel_rfl)
    (case e4 => first | k_is | rfl | kernel_rfl)
    (case e5 => first | k_is | rfl | kernel_rfl)
    (case e6 => first | k_is | rfl | kernel_rfl)
    (case e7 => first | k_is | rfl | kernel_rfl)
    (case e8 => first | k_is | rfl | kernel_rfl)
#print axioms PySem.Challenge.cw_sortedshelves_k15_words_read_backwards_a_holds
