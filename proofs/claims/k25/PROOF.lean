import PyProof.Rows.All
import Wide.All
import OpenK.AllK
import Wide.FinOn
import PyProof.ReprRoads
import PyProof.ReprLen
import HandS.ForMost
import HandS.Conv
import HandS.IsInst
import HandS.TupAny
import HandS.TupMul
import HandS.Wide
import HandS.Style
import HandS.Evl
import HandS.Strs
import HandS.Codes
import HandS.StrMore
import HandS.Replace
import PyProof.TupleOfStr
import HandS.NoneIn
import KE.GoesMore
import HandS.Walk
import HandS.Small
import HandS.Deep
import HandS.HeadHook3
import PyProof.ListStr
import PySem.Challenge.RW_sortedshelves_k25_whole_machines_as_sets
import PyProof.ListTruth
import PyProof.ListRange
import HandS.ReSub
import HandS.WordsDict
import HandS.Zip
import HandS.TupLen
import HandS.NestedK
set_option Elab.async false
set_option linter.all false
set_option maxRecDepth 100000
set_option maxHeartbeats 4000000
namespace Ver
open PySem PySem.Spec PyProof.Rows L2
set_option pp.maxSteps 200
set_option pp.deepTerms false

/-! ### data as it lies in the heap, apart from the addresses in B -/
mutual
inductive Dt (B : Addr → Prop) (K : PySem.W.Frag) (H : Hp) : V → PyData → Prop
  | non : Dt B K H .non .none
  | bl (b : Bool) : Dt B K H (.bl b) (.bool b)
  | int (i : Int) : Dt B K H (.int i) (.int i)
  | str (x : Str) : Dt B K H (.str x) (.str x)
  | lst {a : Addr} {xs : List V} {ds : List PyData} (nb : ¬ B a) (ne : a ≠ sysModules) (hs : Rd H a (.lst xs)) (ha : DtAll B K H xs ds) : Dt B K H (.ref a) (.list ds)
  | tup {a : Addr} {xs : List V} {ds : List PyData} (nb : ¬ B a) (hs : Rd H a (.tup xs)) (ha : DtAll B K H xs ds) : Dt B K H (.ref a) (.tuple ds)
  | emp {a : Addr} (nb : ¬ B a) (h : H a = some (.dK [])) : Dt B K H (.ref a) (.dict [])
inductive DtAll (B : Addr → Prop) (K : PySem.W.Frag) (H : Hp) : List V → List PyData → Prop
  | nil : DtAll B K H [] []
  | cons {v : V} {vs : List V} {d : PyData} {ds : List PyData} (hd : Dt B K H v d) (tl : DtAll B K H vs ds) : DtAll B K H (v :: vs) (d :: ds)
end

/-- all that is tracked outside of B stays -/
def Keep (B : Addr → Prop) (H H' : Hp) : Prop := ∀ b o, ¬ B b → H b = some o → H' b = some o
theorem Keep.rfl' {B : Addr → Prop} {H : Hp} : Keep B H H := fun _ _ _ e => e
theorem Keep.trans {B : Addr → Prop} {H H1 H2 : Hp} (x : Keep B H H1) (y : Keep B H1 H2) : Keep B H H2 := fun b o n e => y b o n (x b o n e)
theorem Keep.same {B : Addr → Prop} {H H' : Hp} (x : Same H H') : Keep B H H' := fun b o _ e => x b o e
theorem keep_new {B : Addr → Prop} {H : Hp} {p : Addr} {o : HO} (n : H p = none) : Keep B H (upd H p o) := fun b u _ e => by
  rw [upd_ne (ne_of_none e n)]
  exact e
theorem same_new {H : Hp} {p : Addr} {o : HO} (n : H p = none) : Same H (upd H p o) := fun b u e => by
  rw [upd_ne (ne_of_none e n)]
  exact e
theorem Keep.rd {B : Addr → Prop} {H H' : Hp} {a : Addr} {o : HO} (k : Keep B H H') (nb : ¬ B a) (h : Rd H a o) : Rd H' a o := by
  rcases h with h | ⟨u, h⟩
  · exact .inl (k _ _ nb h)
  · exact .inr ⟨u, k _ _ nb h⟩
theorem Keep.seqL {B : Addr → Prop} {K : PySem.W.Frag} {H H' : Hp} {a : Addr} {xs : List V} (k : Keep B H H') (nb : ¬ B a) (h : SqL K H a xs) : SqL K H' a xs := by
  rcases h with (h | ⟨o, h⟩) | h
  · exact .inl (.inl (k _ _ nb h))
  · exact .inl (.inr ⟨o, k _ _ nb h⟩)
  · exact .inr h
theorem Keep.seqT {B : Addr → Prop} {K : PySem.W.Frag} {H H' : Hp} {a : Addr} {xs : List V} (k : Keep B H H') (nb : ¬ B a) (h : SqT K H a xs) : SqT K H' a xs := by
  rcases h with (h | ⟨o, h⟩) | h
  · exact .inl (.inl (k _ _ nb h))
  · exact .inl (.inr ⟨o, k _ _ nb h⟩)
  · exact .inr h
mutual
theorem Dt.keep {B : Addr → Prop} {K : PySem.W.Frag} {H H' : Hp} (k : Keep B H H') : ∀ (d : PyData) (v : V), Dt B K H v d → Dt B K H' v d
  | .none, _, h => by cases h; exact .non
  | .bool _, _, h => by cases h; exact .bl _
  | .int _, _, h => by cases h; exact .int _
  | .str _, _, h => by cases h; exact .str _
  | .list ds, _, h => by
    cases h with
    | lst nb ne hs ha => exact .lst nb ne (k.rd nb hs) (DtAll.keep k ds _ ha)
  | .tuple ds, _, h => by
    cases h with
    | tup nb hs ha => exact .tup nb (k.rd nb hs) (DtAll.keep k ds _ ha)
  | .dict _, _, h => by
    cases h with
    | emp nb e => exact .emp nb (k _ _ nb e)
theorem DtAll.keep {B : Addr → Prop} {K : PySem.W.Frag} {H H' : Hp} (k : Keep B H H') : ∀ (ds : List PyData) (vs : List V), DtAll B K H vs ds → DtAll B K H' vs ds
  | [], _, h => by cases h; exact .nil
  | d :: ds, _, h => by
    cases h with
    | cons h1 h2 => exact .cons (Dt.keep k d _ h1) (DtAll.keep k ds _ h2)
end
theorem DtAll.len {B : Addr → Prop} {K : PySem.W.Frag} {H : Hp} : ∀ {vs : List V} {ds : List PyData}, DtAll B K H vs ds → vs.length = ds.length
  | _, _, .nil => rfl
  | _, _, .cons _ t => congrArg (· + 1) (DtAll.len t)
theorem DtAll.append {B : Addr → Prop} {K : PySem.W.Frag} {H : Hp} : ∀ {vs ws : List V} {ds es : List PyData}, DtAll B K H vs ds → DtAll B K H ws es → DtAll B K H (vs ++ ws) (ds ++ es)
  | _, _, _, _, .nil, q => q
  | _, _, _, _, .cons r t, q => .cons r (DtAll.append t q)
theorem DtAll.take {B : Addr → Prop} {K : PySem.W.Frag} {H : Hp} : ∀ {vs : List V} {ds : List PyData} (n : Nat), DtAll B K H vs ds → DtAll B K H (vs.take n) (ds.take n)
  | _, _, 0, _ => .nil
  | _, _, _ + 1, .nil => .nil
  | _, _, n + 1, .cons r t => .cons r (DtAll.take n t)
theorem DtAll.drop {B : Addr → Prop} {K : PySem.W.Frag} {H : Hp} : ∀ {vs : List V} {ds : List PyData} (n : Nat), DtAll B K H vs ds → DtAll B K H (vs.drop n) (ds.drop n)
  | _, _, 0, h => h
  | _, _, _ + 1, .nil => .nil
  | _, _, n + 1, .cons _ t => DtAll.drop n t
theorem DtAll.get {B : Addr → Prop} {K : PySem.W.Frag} {H : Hp} : ∀ {vs : List V} {ds : List PyData} {i : Nat} {d : PyData}, DtAll B K H vs ds → ds[i]? = some d → ∃ v, vs[i]? = some v ∧ Dt B K H v d
  | _, _, _, _, .nil, e => by simp at e
  | _, _, 0, _, .cons r _, e => by
    simp at e
    subst e
    exact ⟨_, rfl, r⟩
  | _, _, i + 1, _, .cons _ t, e => by
    obtain ⟨v, h1, h2⟩ := DtAll.get (i := i) t (by simpa using e)
    exact ⟨v, by simpa using h1, h2⟩
theorem DtAll.getV {B : Addr → Prop} {K : PySem.W.Frag} {H : Hp} : ∀ {vs : List V} {ds : List PyData} {i : Nat} {v : V}, DtAll B K H vs ds → vs[i]? = some v → ∃ d, ds[i]? = some d ∧ Dt B K H v d
  | _, _, _, _, .nil, e => by simp at e
  | _, _, 0, _, .cons r _, e => by
    simp at e
    subst e
    exact ⟨_, rfl, r⟩
  | _, _, i + 1, _, .cons _ t, e => by
    obtain ⟨v, h1, h2⟩ := DtAll.getV (i := i) t (by simpa using e)
    exact ⟨v, by simpa using h1, h2⟩
theorem DtAll.rev {B : Addr → Prop} {K : PySem.W.Frag} {H : Hp} : ∀ {vs : List V} {ds : List PyData}, DtAll B K H vs ds → DtAll B K H vs.reverse ds.reverse
  | _, _, .nil => .nil
  | _, _, .cons r t => by
    rw [List.reverse_cons, List.reverse_cons]
    exact (DtAll.rev t).append (.cons r .nil)
theorem DtAll.rep {B : Addr → Prop} {K : PySem.W.Frag} {H : Hp} {v : V} {d : PyData} (h : Dt B K H v d) : ∀ n : Nat, DtAll B K H (List.replicate n v) (List.replicate n d)
  | 0 => .nil
  | n + 1 => .cons h (DtAll.rep h n)

section
variable {X : Cx} {pins : List (Addr × Obj)} {σ : L2.St} {H : Hp} {s : Shared}
theorem no_entries {knd : KeyKind X.prog X.w Key} {es : List DictEntry} (h : PySem.Pairs knd es ([] : List (Key × Value))) : es = [] := by
  cases h
  rfl
mutual
theorem Dt.reads {B : Addr → Prop} (I : Inv X pins σ H s) : ∀ (d : PyData) (v : V) (u : Value), Dt B X.K H v d → RelV v u → ∃ as, Reads s.heap u d as ∧ sysModules ∉ as
  | .none, _, _, h, r => by
    cases h
    cases r
    exact ⟨[], .none, List.not_mem_nil⟩
  | .bool b, _, _, h, r => by
    cases h
    cases r
    exact ⟨[], .bool b, List.not_mem_nil⟩
  | .int i, _, _, h, r => by
    cases h
    obtain ⟨t, rfl⟩ := r
    exact ⟨[], .int i t, List.not_mem_nil⟩
  | .str x, _, _, h, r => by
    cases h
    obtain ⟨t, rfl⟩ := r
    exact ⟨[], .str x t, List.not_mem_nil⟩
  | .list ds, _, _, h, r => by
    cases h with
    | lst nb ne hs ha =>
      cases r
      obtain ⟨its, rv, ⟨ob, n, ho, hc, _, hd⟩, _⟩ := I.list (.inl hs)
      obtain ⟨as, hr, hn⟩ := DtAll.reads I ds _ its ha rv
      refine ⟨_, .list ho hc hd hr, fun z => ?_⟩
      rcases List.mem_cons.mp z with z | z
      · exact ne z.symm
      · exact hn z
  | .tuple ds, _, _, h, r => by
    cases h with
    | tup nb hs ha =>
      cases r
      obtain ⟨its, rv, ⟨ob, ho, hc, n, hd⟩, _⟩ := I.tuple (.inl hs)
      obtain ⟨as, hr, hn⟩ := DtAll.reads I ds _ its ha rv
      exact ⟨_, .tuple ho hc hd hr, hn⟩
  | .dict _, _, _, h, r => by
    cases h with
    | emp nb e =>
      cases r
      obtain ⟨_, hm, vs, rel, ob, es, ep, ho, hx, hd, _, hp, _⟩ := dk_of I.hok e
      cases rel
      have he := no_entries hp
      refine ⟨_, .dict (kvs := []) ho hx.1 hd (by rw [he]; exact .nil) (by rw [he]; exact .nil), fun z => ?_⟩
      rcases List.mem_cons.mp z with z | z
      · rw [← z] at hm
        simp at hm
      · simp at z
theorem DtAll.reads {B : Addr → Prop} (I : Inv X pins σ H s) : ∀ (ds : List PyData) (vs : List V) (us : List Value), DtAll B X.K H vs ds → Vals vs us → ∃ as, ReadsAll s.heap us ds as ∧ sysModules ∉ as
  | [], _, _, h, r => by
    cases h
    cases r
    exact ⟨[], .nil, List.not_mem_nil⟩
  | d :: ds, _, _, h, r => by
    cases h with
    | cons h1 h2 =>
      cases r with
      | cons r1 r2 =>
        obtain ⟨as, q1, n1⟩ := Dt.reads I d _ _ h1 r1
        obtain ⟨bs, q2, n2⟩ := DtAll.reads I ds _ _ h2 r2
        refine ⟨_, .cons q1 q2, fun z => ?_⟩
        rcases List.mem_append.mp z with z | z
        · exact n1 z
        · exact n2 z
end
end

/-! ### repr -/
section
variable {X : Cx}
def rRepr (K : PySem.W.Frag) : List V → Hp → VK → Prop := fun xs H Q => ∃ (x : V) (d : PyData) (B : Addr → Prop), xs = [x] ∧ Dt B K H x d ∧ d.showable = true ∧ d.depth ≤ 60 ∧ d.shown.length ≤ sizeLine ∧ Q (.str d.shown) H
theorem call_reprD (hG : X.A.guards = some []) (hu : X.A.units + 64 < cLine) : CallR X (.builtin "repr") (rRepr X.K) := by
  intro pins s σ H xs us Q I r h
  obtain ⟨x, d, B, rfl, hd, hs, hdp, hz, q⟩ := h
  obtain ⟨u, rfl, rx⟩ := vals1 r
  obtain ⟨as, rd, hn⟩ := Dt.reads I d x u hd rx
  cases hd with
  | non =>
    cases rx
    exact PySem.P.repr_of_none ⟨.str _, H, I.tok _, ⟨_, rfl⟩, q⟩
  | bl b =>
    cases rx
    exact PySem.P.repr_of_bool ⟨.str _, H, I.tok _, ⟨_, rfl⟩, q⟩
  | int i =>
    obtain ⟨t, rfl⟩ := rx
    exact PySem.P.repr_of_int (by simpa [PyData.showable] using hs) ⟨.str _, H, I.tok _, ⟨_, rfl⟩, q⟩
  | str y =>
    obtain ⟨t, rfl⟩ := rx
    exact PySem.P.repr_of_str ⟨.str _, H, I.tok _, ⟨_, rfl⟩, q⟩ (by simpa only [PyData.shown] using hz)
  | lst nb ne hs' ha =>
    cases rx
    exact repr_of_reads' rd hs (fun _ => hn) hG (by omega) (fun _ _ e => e) (fun h' u tk hk => ⟨.str _, H, I.kept hk, ⟨_, rfl⟩, q⟩) hz
  | tup nb hs' ha =>
    cases rx
    exact repr_of_reads' rd hs (fun _ => hn) hG (by omega) (fun _ _ e => e) (fun h' u tk hk => ⟨.str _, H, I.kept hk, ⟨_, rfl⟩, q⟩) hz
  | emp nb e =>
    cases rx
    exact repr_of_reads' rd hs (fun _ => hn) hG (by omega) (fun _ _ e => e) (fun h' u tk hk => ⟨.str _, H, I.kept hk, ⟨_, rfl⟩, q⟩) hz
end

/-! ### a def called where nothing is being shown (no repr under way) -/
section
variable {P : Program} {w : World} {K : PySem.W.Frag} {mg : Str → Option Value} {base : Heap}
def GRun (P : Program) (w : World) (K : PySem.W.Frag) (mg : Str → Option Value) (base : Heap) (k : Nat) (f : Addr) (fd : FuncData) (ps : List Str) (sp : Sp) : Prop :=
  ∀ (A : Around) (outer : List Env) (s : Shared) (H : Hp) (us : List Value) (vs : List V) (Q : VK),
    A.guards = some [] → Room k A → Env0 P w K mg base A outer s H → BindsTo s fd ⟨us, []⟩ (ps.zip us) → Vals vs us → vs.length = ps.length → sp vs H Q E0 →
    codeAny (model P w) A (.call (.ref f) ⟨us, []⟩) (CR CX0 outer P w H s Q E0) s
theorem grun {x qual : Str} {st : Stmt} {f : Addr} {fd : FuncData} {N ps : List Str} {k : Nat} {sp : Sp} (F : Fun K x qual st f fd) (S : FnScope N ps (defScope st))
    (body : ∀ (cdv : Value) (A : Around) (outer : List Env) (s : Shared) (H : Hp) (vs : List V) (Q : VK), A.guards = some [] → Room k (A.deeper (envOfC qual (defScope st) s.heap.objs.size f cdv)) → sp vs H Q E0 →
      ∃ t, PSs (cxOf CX0 P w K mg base N qual (defScope st) f cdv A outer s H E0).nox (defBody st) t ∧ t { nx := fun _ H' => Q .non H', rt := Q } (start N vs) H) :
    GRun P w K mg base (k + 1) f fd ps sp := by
  obtain ⟨oc, od, kV, doc, pm, an, cdv, ct, osl, rfl, lk, hcd⟩ := F.ex
  intro A outer s H us vs Q hG hr e0 hb r hl hsp
  have inK : K.In s.heap := e0.mod.kin.keeps (fun b o q => (e0.bs b o q).1)
  have noL : s.heap.NoLimit := e0.mod.nolimit.keeps (fun b o q => (e0.bs b o q).1)
  have kinds : ∀ y ∈ ps.zip us, (defScope st).names.lookup y.1 = some .local ∨ ((defScope st).names.lookup y.1 = some .cell ∧ ((cellsFrom (s.heap.objs.size + 1) (defScope st).names []).lookup y.1).isSome = true) := by
    intro y hy
    obtain ⟨n, v⟩ := y
    cases S.par n (List.of_mem_zip hy).1 with
    | inl q => exact Or.inl q
    | inr q => exact Or.inr ⟨q, PySem.W.cellsFrom_some _ _ _ (Or.inl q)⟩
  refine codeAny_call_function hr.depth (inK _ _ lk) rfl S.co S.gen rfl (PySem.W.codeRec_of inK hcd) (hb _ _ _ _ ?_)
  refine wpAny_newFunctionEnv_cells S.kind kinds (fun env he s1 x => ?_)
  cases he
  obtain ⟨t, ht, hq⟩ := body cdv A outer s H vs Q hG (hr.deeper _) hsp
  have J := inv_start (CX := CX0) (mg := mg) (E := E0) S hr.hd e0 hl r x
  refine ⟨noL.keeps x.toInCall.keep, codeAny_func (wpAny_mono (ht.nox.run [] s1 (start N vs) H _ J hq) ?_ (fun e s' z => z))⟩
  intro fl s' z
  cases fl with
  | next =>
    obtain ⟨_, H', J', q⟩ := z
    exact ⟨.non, H', J'.os, J'.bare, J'.base, J'.hok, rfl, q⟩
  | ret u =>
    obtain ⟨v, _, H', J', rv, q⟩ := z
    exact ⟨v, H', J'.os, J'.bare, J'.base, J'.hok, rv, q⟩
  | brk => exact (z.choose_spec.choose_spec.2).elim
  | cont => exact (z.choose_spec.choose_spec.2).elim

/-- called from outside with the object at a, the def at fa answers True and leaves what stood -/
abbrev TrueAt (P : Program) (w : World) (fa a : Addr) (t : Shared) : Prop :=
  codeAny (model P w) callerA (.call (.ref fa) ⟨[.ref a], []⟩)
    (fun r u => r = .ok (.ret (.bool true)) ∧
      OldK t.heap u.heap ∧ u.os = t.os ∧ AllBare u.gens) t
/-- nothing but one list of ints, known, is tracked -/
theorem gcall {k : Nat} {fa a : Addr} {fd : FuncData} {x : Str} {sp : Sp} {s₁ : Shared} {mb : Str → Option Value} {H : Hp}
    (inH : K.In s₁.heap) (atG : s₁.heap.Ns mainGlobals mg) (hb : s₁.heap.Ns builtinsNs mb) (bB : ∀ x : Str, x ≠ "__name__" → mb x = bootBuiltins x) (lim : s₁.heap.NoLimit) (hg : s₁.gens = #[])
    (hr : Room k callerA) (R : ∀ base : Heap, K.In base → base.Ns mainGlobals mg → GRun P w K mg base k fa fd [x] sp) (bind : ∀ (s : Shared) (u : Value), BindsTo s fd ⟨[u], []⟩ [(x, u)])
    (hok : HOk P w H s₁.heap) (only : ∀ b o, H b = some o → b = a ∧ (∃ ob xs, o = .frz ob (.lst xs) ∧ ∀ es ep, ob.data ≠ .dict es ep) ∧ K.lookup a = none)
    (hsp : sp [.ref a] H (fun v _ => v = .bl true) E0) :
    TrueAt P w fa a s₁ := by
  have plain : ∀ {b : Addr} {o : Obj} {es : Array DictEntry} {ep : Nat}, s₁.heap.get? b = some o → o.data = .dict es ep → H b = none := by
    intro b o es ep q d
    cases z : H b with
    | none => rfl
    | some u =>
      obtain ⟨_, ⟨ob, xs, rfl, nd⟩, _⟩ := only b u z
      obtain ⟨q2, _⟩ := hok b _ z
      rw [q] at q2
      cases q2
      exact absurd d (nd es ep)
  have nsB : ∀ {b : Addr} {m : Str → Option Value}, s₁.heap.Ns b m → (hidT s₁.heap H).Ns b m := by
    rintro b m ⟨o, es, ep, q, d, r⟩
    exact ⟨o, es, ep, hidT_get q (plain q d), d, r⟩
  have kB : K.In (hidT s₁.heap H) := by
    intro b o q
    refine hidT_get (inH b o q) ?_
    cases z : H b with
    | none => rfl
    | some u =>
      obtain ⟨e, _, n⟩ := only b u z
      rw [e, n] at q
      cases q
  have md : L2.Mod K mg (hidT s₁.heap H) := by
    obtain ⟨mc, l1, l2⟩ := lim
    exact ⟨kB, nsB atG, ⟨mb, nsB hb, bB⟩, ⟨mc, nsB l1, l2⟩⟩
  have env : Env0 P w K mg (hidT s₁.heap H) callerA [] s₁ H :=
    { frames := rfl, mod := md, bs := fun b o q => of_hidT q, bsz := Nat.le_of_eq (hidT_size _ _), funs := trivial, frf := fun b z => absurd z List.not_mem_nil, hok := hok, bare := .of_eq hg }
  have run := R _ kB (nsB atG) callerA [] s₁ H [.ref a] [.ref a] _ rfl hr env (bind s₁ (.ref a)) (.cons rfl .nil) rfl hsp
  refine codeAny_mono run (fun r s' z => ?_)
  match r, z with
  | .error _, z => exact z.elim
  | .ok .next, z => exact z.elim
  | .ok .brk, z => exact z.elim
  | .ok .cont, z => exact z.elim
  | .ok (.ret u), ⟨v, H', os, bare, un, hok', rv, q⟩ =>
    have q : v = .bl true := q
    cases q
    have rv : u = Value.bool true := rv
    cases rv
    refine ⟨rfl, .of_keep (fun b o e => ?_), os, bare⟩
    cases z : H b with
    | none => exact un.keep b o e z List.not_mem_nil List.not_mem_nil
    | some u =>
      obtain ⟨_, ⟨ob, xs, rfl, _⟩, _⟩ := only b u z
      have g1 := (hok b _ z).1
      have g2 := (hok' b _ (un.frzs b ob _ z)).1
      rw [e] at g1
      cases g1
      exact g2
/-- the law's call, the script tracked or written -/
theorem glaw {k : Nat} {fa a : Addr} {fd : FuncData} {x : Str} {sp : Sp} {s₁ : Shared} {mb : Str → Option Value} {vs : List Value} {ns : List Int}
    (inH : K.In s₁.heap) (atG : s₁.heap.Ns mainGlobals mg) (hb : s₁.heap.Ns builtinsNs mb) (bB : ∀ x : Str, x ≠ "__name__" → mb x = bootBuiltins x) (lim : s₁.heap.NoLimit) (hg : s₁.gens = #[])
    (ha : s₁.heap.get? a = some { cls := .type "list", data := .seq vs.toArray }) (hi : IntsAre vs ns) (hl : ns.length ≤ sizeLine)
    (hr : Room k callerA) (R : ∀ base : Heap, K.In base → base.Ns mainGlobals mg → GRun P w K mg base k fa fd [x] sp) (bind : ∀ (s : Shared) (u : Value), BindsTo s fd ⟨[u], []⟩ [(x, u)])
    (hsp : ∀ H : Hp, SqL K H a (ns.map V.int) → sp [.ref a] H (fun v _ => v = .bl true) E0) :
    TrueAt P w fa a s₁ := by
  have rv := vals_ints hi
  cases q : K.lookup a with
  | some o =>
    have e := (inH a o q).symm.trans ha
    cases e
    refine gcall (H := fun _ => none) inH atG hb bB lim hg hr R bind (fun b u z => by cases z) (fun b u z => by cases z) (hsp _ (.inr ⟨_, vs.toArray, _, q, rfl, rfl, rfl, ?_, by simpa using rv⟩))
    rw [List.size_toArray, hi.length]
    exact hl
  | none =>
    have tr : ∀ b u, upd (fun _ => none) a (.frz { cls := .type "list", data := .seq vs.toArray } (.lst (ns.map V.int))) b = some u → b = a ∧ u = .frz { cls := .type "list", data := .seq vs.toArray } (.lst (ns.map V.int)) := by
      intro b u z
      by_cases h : b = a
      · rw [h, upd_same] at z
        exact ⟨h, (Option.some.inj z).symm⟩
      · rw [upd_ne h] at z
        cases z
    refine gcall (H := upd (fun _ => none) a (.frz { cls := .type "list", data := .seq vs.toArray } (.lst (ns.map V.int)))) inH atG hb bB lim hg hr R bind (fun b u z => ?_) (fun b u z => ?_) (hsp _ (.inl (.inr ⟨_, upd_same⟩)))
    · obtain ⟨rfl, rfl⟩ := tr b u z
      exact ⟨ha, by rw [List.length_map]; exact hl, vs, _, rv, ha⟩
    · obtain ⟨rfl, rfl⟩ := tr b u z
      exact ⟨rfl, ⟨_, _, rfl, fun es ep d => by cases d⟩, q⟩
end
/-- the end of the row's proof -/
theorem gwalk {l : PySem.W.OpenLaw} {n k : Nat} {q : Program} {loose : List Str} {XP : (Str → Option Value) → Heap → Prop} {YP : World → Heap → Prop} {d : DefRec} {K : Params → PySem.W.Frag} {sp : World → Sp} {x : Str}
    (hn : l.most = some n) (hn2 : n ≤ sizeLine) (hdf : d.params.defaults = []) (hr : Room k callerA) (hY : ∀ (w : World) (h : Heap), YP w h → (K w.params).In h)
    (F : ∀ (w : World) (mg : Str → Option Value) (fa : Addr) (h : Heap), (K w.params).In h → h.Ns mainGlobals mg → mg d.name = some (.ref fa) →
      ∃ fd : FuncData, (∀ (s : Shared) (u : Value), BindsTo s fd ⟨[u], []⟩ [(x, u)]) ∧ ∀ base : Heap, (K w.params).In base → base.Ns mainGlobals mg → GRun l.prog w (K w.params) mg base k fa fd [x] (sp w))
    (hsp : ∀ (w : World) (H : Hp) (a : Addr) (ns : List Int), ns.length ≤ n → SqL (K w.params) H a (ns.map V.int) → sp w [.ref a] H (fun v _ => v = .bl true) E0) :
    PySem.W.WalkO q loose XP YP l.row.toRowW d [] (fun f vs => PySem.call f vs) := by
  refine Att.attach_call hn hdf (fun w s₀ s₁ mg mb fa o pm cd doc a vs ns G Y _ _ _ hmg hobj hints hlen hg => ?_)
  have inK := hY w _ Y
  obtain ⟨fd, bind, R⟩ := F w mg fa _ inK G.T.g hmg
  exact glaw inK G.T.g G.T.b G.T.builtins G.T.nolimit hg hobj hints (Nat.le_trans hlen hn2) hr R bind (fun H hS => hsp w H a ns hlen hS)
/-! ### the text by places -/
def top (i : Nat) : Stmt := PySem.Challenge.pw_sortedshelves_k25_whole_machines_as_sets.main.body.getD i (.Pass ⟨0, 0, 0, 0⟩)
abbrev sReached : Stmt := top 6
abbrev sSources : Stmt := top 7
abbrev sLeading : Stmt := top 8
abbrev sUseful : Stmt := top 9
abbrev sSmallG : Stmt := top 10
abbrev sSmallM : Stmt := top 11
abbrev sBlocks : Stmt := top 12
abbrev sRefine : Stmt := top 13
abbrev sMove : Stmt := top 14
abbrev sLook : Stmt := top 15
abbrev sNumbered : Stmt := top 16
abbrev sFirst : Stmt := top 17
abbrev sSpelled : Stmt := top 18
abbrev sIsOf : Stmt := top 20
abbrev sTold : Stmt := top 21
abbrev sReaching : Stmt := top 22
abbrev sFurther : Stmt := top 23
abbrev sCount : Stmt := top 24
abbrev sCounts : Stmt := top 25
abbrev sOnward : Stmt := top 26
abbrev sSize : Stmt := top 27
abbrev sSmallest : Stmt := top 28
abbrev sBoth : Stmt := top 29
abbrev sEither : Stmt := top 30
abbrev sLess : Stmt := top 31
abbrev sPaired : Stmt := top 32
abbrev sCompl : Stmt := top 33
abbrev sApartP : Stmt := top 34
abbrev sDeck : Stmt := top 36
abbrev sDraw : Stmt := top 37
abbrev sOne : Stmt := top 38
abbrev sMach : Stmt := top 39
abbrev sSetsR : Stmt := top 40
abbrev sCountsR : Stmt := top 41
abbrev sApartR : Stmt := top 42
abbrev sLaw : Stmt := top 43
theorem scDeck : FnScope ["_law_script", "_law_cell"] ["_law_script"] (defScope sDeck) := ⟨rfl, rfl, rfl, by decide +kernel, rfl, by decide +kernel, by decide +kernel⟩
theorem scDraw : FnScope ["_law_deck_here", "_law_many", "_law_cell", "_law_at", "_law_mixed"] ["_law_deck_here", "_law_many"] (defScope sDraw) := ⟨rfl, rfl, rfl, by decide +kernel, rfl, by decide +kernel, by decide +kernel⟩
theorem scOne : FnScope ["_law_deck_here", "_law_items"] ["_law_deck_here", "_law_items"] (defScope sOne) := ⟨rfl, rfl, rfl, by decide +kernel, rfl, by decide +kernel, by decide +kernel⟩
def DeckAt (a c : Addr) (cells : List Int) (n : Int) (H : Hp) : Prop :=
  a ≠ c ∧ H a = some (.lst [.ref c, .int n]) ∧ H c = some (.lst (cells.map V.int)) ∧ cells.length ≤ 63 ∧ (∀ z ∈ cells, 0 ≤ z)
theorem cut_ints (ns : List Int) (lo hi : Option Int) : ∃ ms : List Int, cutV (ns.map V.int) lo hi = ms.map V.int ∧ ms.length ≤ ns.length := by
  unfold cutV
  refine ⟨(ns.drop (HT.sIx (ns.map V.int).length 0 lo)).take (HT.sIx (ns.map V.int).length (ns.map V.int).length hi - HT.sIx (ns.map V.int).length 0 lo), by rw [List.map_take, List.map_drop], ?_⟩
  rw [List.length_take, List.length_drop]
  omega
theorem int_at {ns : List Int} {i : Nat} {x : V} (h : (ns.map V.int)[i]? = some x) : ∃ u, x = V.int u := by
  rw [List.getElem?_map] at h
  obtain ⟨u, _, e⟩ := Option.map_eq_some_iff.mp h
  exact ⟨u, e.symm⟩
section
variable {P : Program} {w : World} {K : PySem.W.Frag} {mg : Str → Option Value} {base : Heap}
def spDeck (K : PySem.W.Frag) : Sp := fun vs H Q _ => ∃ (l : Addr) (ns : List Int), vs = [.ref l] ∧ SqL K H l (ns.map V.int) ∧ ns.length ≤ 63 ∧
  ∀ (H' : Hp) (a c : Addr) (cells : List Int), Same H H' → H a = none → H c = none → DeckAt a c cells 0 H' → Q (.ref a) H'
theorem ok_deck {f : Addr} {fd : FuncData} (F : Fun K "_law_deck" "_law_deck" sDeck f fd) (mAbs : mg "abs" = none) : FnOk P w K mg base CX0 1 f fd ["_law_script"] (spDeck K) := by
  refine F.ok scDeck (fun vs H Q E h => ?_) (fun cdv A outer s H vs Q E hr h => ?_)
  · obtain ⟨l, ns, rfl, _⟩ := h
    rfl
  · obtain ⟨l, ns, rfl, hS, hlen, k⟩ := h
    refine ⟨_, pss_one (ps_ret (pe_lst (pa_cons (pe_lc (own := [("_law_cell", 1)]) (g := gName 1) (tt := tYes) rfl scDeck.nd (pi_list (pe_slice sl_list (pv 0) po_none (po_some pe_int))) (blkOk_by (N := ["_law_script", "_law_cell"]) (sc := defScope sDeck) (by decide +kernel)) (fun _ _ _ _ _ => pg_name (i := 1) scDeck.nd rfl (Or.inl rfl)) (fun _ _ _ _ _ => pts_nil)
      (fun _ _ _ _ _ => pe_callB call_abs (by rfl) mAbs (by decide +kernel) (pa_cons (pv 1) pa_nil))) (pa_cons pe_int pa_nil)))), ?_⟩
    refine ⟨_, rfl, 63, rfl, l, _, rfl, hS, fun p hp => ?_⟩
    obtain ⟨ms, e, hm⟩ := cut_ints ns none (some 63)
    rw [e]
    refine ⟨p, rfl, ⟨_, SqL.of upd_same⟩, fun D hD => ?_⟩
    have np : p ≠ D := ne_of_none upd_same hD
    have hD0 : H D = none := by
      rw [upd_ne np.symm] at hD
      exact hD
    refine lc_list (K := K) (a := p) (xs := ms.map V.int) (fun i H' => Same H H' ∧ H' p = some (.lst (ms.map V.int)) ∧ ∃ cs : List Int, H' D = some (.lst (cs.map V.int)) ∧ cs.length = i ∧ ∀ z ∈ cs, 0 ≤ z) ⟨?_, ?_, [], upd_same, rfl, fun z hz => absurd hz List.not_mem_nil⟩ (fun i H' _ q => SqL.of q.2.1) ?_ ?_
    · exact (same_new hp).trans (same_new hD)
    · rw [upd_ne np, upd_same]
    · rintro i x H' hx ⟨sm, hp', cs, hD', hl, hc⟩
      obtain ⟨u, rfl⟩ := int_at hx
      refine ⟨rfl, ?_⟩
      refine ⟨_, rfl, u, rfl, _, hD', ?_, fun b o z => ?_, ?_, cs ++ [if u < 0 then -u else u], ?_, ?_, ?_⟩
      · have hi := (List.getElem?_eq_some_iff.mp hx).1
        rw [List.length_map] at hi ⊢
        exact small1000 (by omega)
      · rw [upd_ne (ne_of_none z hD0)]
        exact sm _ _ z
      · rw [upd_ne np]
        exact hp'
      · rw [upd_same, List.map_append]
        rfl
      · rw [List.length_append, hl]
        rfl
      · intro z hz
        rcases List.mem_append.mp hz with hz | hz
        · exact hc z hz
        · rw [List.mem_singleton.mp hz]
          split <;> omega
    · rintro H' ⟨sm, hp', cs, hD', hl, hc⟩
      rw [List.length_map] at hl
      refine ⟨(by show 2 ≤ sizeLine; decide), fun a ha => ?_⟩
      have na : D ≠ a := ne_of_none hD' ha
      have ha0 : H a = none := sm.free ha
      refine k _ a D cs (sm.trans (same_new ha)) ha0 hD0 ⟨na.symm, upd_same, ?_, by omega, hc⟩
      rw [upd_ne na]
      exact hD'
end
/-- the deck's two lists -/
def Bd (a c : Addr) : Addr → Prop := fun b => b = a ∨ b = c
theorem bd_ne {a c b : Addr} {H : Hp} {o : HO} (e : H b = some o) (nl : ∀ xs, o ≠ .lst xs) {xs ys : List V} (ha : H a = some (.lst xs)) (hc : H c = some (.lst ys)) : ¬ Bd a c b := by
  rintro (h | h)
  · rw [h, ha] at e
    exact nl _ (Option.some.inj e).symm
  · rw [h, hc] at e
    exact nl _ (Option.some.inj e).symm
theorem bd_new {a c p : Addr} {H : Hp} {xs ys : List V} (n : H p = none) (ha : H a = some (.lst xs)) (hc : H c = some (.lst ys)) : ¬ Bd a c p := by
  rintro (h | h)
  · rw [h, ha] at n
    cases n
  · rw [h, hc] at n
    cases n
theorem keep_upd {a c x : Addr} {H : Hp} {o : HO} (h : Bd a c x) : Keep (Bd a c) H (upd H x o) := fun b u n e => by
  rw [upd_ne (fun z : b = x => n (z.symm ▸ h))]
  exact e
section
variable {P : Program} {w : World} {K : PySem.W.Frag} {mg : Str → Option Value} {base : Heap}
def spDraw : Sp := fun vs H Q _ => ∃ (a c : Addr) (cells : List Int) (n m : Int), vs = [.ref a, .int m] ∧ DeckAt a c cells n H ∧ 1 ≤ m ∧ m ≤ 1000000 ∧ 0 ≤ n ∧ n ≤ 1000000 ∧
  ∀ (H' : Hp) (cells' : List Int) (r : Int), 0 ≤ r → r < m → DeckAt a c cells' (n + 1) H' → Keep (Bd a c) H H' → Q (.int r) H'
theorem ok_draw {f : Addr} {fd : FuncData} (F : Fun K "_law_draw" "_law_draw" sDraw f fd) (mLen : mg "len" = none) (mInt : mg "int" = none) : FnOk P w K mg base CX0 1 f fd ["_law_deck_here", "_law_many"] spDraw := by
  refine F.ok scDraw (fun vs H Q E h => ?_) (fun cdv A outer s H vs Q E hr h => ?_)
  · obtain ⟨a, c, cells, n, m, rfl, _⟩ := h
    rfl
  · obtain ⟨a, c, cells, n, m, rfl, ⟨nac, ha, hc, hlen, hpos⟩, m1, m2, n1, n2, k⟩ := h
    refine ⟨_, pss_cons (ps_asg (pe_op op_add (pe_ix ix_list (pv 0) pe_int (fun _ _ => rfl)) pe_int) (pg_sub (pv 0) pe_int set_list))
      (pss_cons (ps_asg (pe_tup (pa_cons pe_int (pa_cons (pe_un un_neg pe_int) pa_nil))) (pg_tup rfl (pgs_cons (pg_name (i := 2) scDraw.nd rfl (.inl rfl)) (pgs_cons (pg_name (i := 3) scDraw.nd rfl (.inl rfl)) pgs_nil))))
      (Evl.pss_cut (ps_if (pt_cmpR op_gt (pe_callB call_len_seq (by rfl) mLen PySem.boot_len (pa_cons (pe_ix ix_list (pv 0) pe_int (fun _ _ => rfl)) pa_nil)) pe_int (nomark _))
        (pss_cons (ps_set (i := 3) scDraw.nd rfl (.inl rfl) (pe_op op_mod (pe_callTy call_int1 (by rfl) mInt (by decide +kernel) (pa_cons (pe_ix ix_list (pv 0) pe_int (fun _ _ => rfl)) pa_nil)) (pe_callB call_len_seq (by rfl) mLen PySem.boot_len (pa_cons (pe_ix ix_list (pv 0) pe_int (fun _ _ => rfl)) pa_nil))))
        (pss_one (ps_set (i := 2) scDraw.nd rfl (.inl rfl) (pe_ix ix_list (pe_ix ix_list (pv 0) pe_int (fun _ _ => rfl)) (pv 3) (fun _ _ => rfl)))))
        pss_nil)
      (pss_cons (ps_if (pt_cmpR op_ge (pv 2) (pe_op op_pow pe_int pe_int) (nomark _))
        (pss_cons (ps_asg (pe_op op_fdivW (pe_callTy call_int1 (by rfl) mInt (by decide +kernel) (pa_cons (pv 2) pa_nil)) (pv 1)) (pg_sub (pe_ix ix_list (pv 0) pe_int (fun _ _ => rfl)) (pv 3) set_list))
          (pss_one (ps_ret (pe_op op_mod (pe_callTy call_int1 (by rfl) mInt (by decide +kernel) (pa_cons (pv 2) pa_nil)) (pv 1)))))
        pss_nil)
      (pss_cons (ps_set (i := 4) scDraw.nd rfl (.inl rfl) (pe_op op_add (pe_op op_add (pe_op op_mod (pe_callTy call_int1 (by rfl) mInt (by decide +kernel) (pa_cons (pv 2) pa_nil)) pe_int) (pe_op op_mul pe_int (pe_ix ix_list (pv 0) pe_int (fun _ _ => rfl)))) pe_int))
      (pss_one (ps_ret (pe_op op_mod (pe_callTy call_int1 (by rfl) mInt (by decide +kernel) (pa_cons (pe_op op_mod (pe_callTy call_int1 (by rfl) mInt (by decide +kernel) (pa_cons (pe_op op_pow (pv 4) pe_int) pa_nil)) pe_int) pa_nil)) (pv 1)))))))), ?_⟩
    refine ⟨.ref a, rfl, a, _, 1, _, rfl, rfl, SqL.of ha, atI_nat (j := 1) rfl, n, 1, rfl, rfl, .ref a, rfl, a, _, 1, 1, rfl, rfl, ha, rfl, ?_⟩
    have hA1 : upd H a (.lst [.ref c, .int (n + 1)]) a = some (.lst [.ref c, .int (n + 1)]) := upd_same
    have hC1 : upd H a (.lst [.ref c, .int (n + 1)]) c = some (.lst (cells.map V.int)) := by
      rw [upd_ne nac.symm]
      exact hc
    have k1 : Keep (Bd a c) H (upd H a (.lst [.ref c, .int (n + 1)])) := keep_upd (.inl rfl)
    refine ⟨1, rfl, (by show 2 ≤ sizeLine; decide), fun T hT => ?_⟩
    have k2 := k1.trans (keep_new (B := Bd a c) (o := .tup [.int 0, .int (-1)]) hT)
    have hA2 : upd (upd H a (.lst [.ref c, .int (n + 1)])) T (.tup [.int 0, .int (-1)]) a = some (.lst [.ref c, .int (n + 1)]) := by
      rw [upd_ne (ne_of_none hA1 hT)]
      exact hA1
    have hC2 : upd (upd H a (.lst [.ref c, .int (n + 1)])) T (.tup [.int 0, .int (-1)]) c = some (.lst (cells.map V.int)) := by
      rw [upd_ne (ne_of_none hC1 hT)]
      exact hC1
    have hT2 : upd (upd H a (.lst [.ref c, .int (n + 1)])) T (.tup [.int 0, .int (-1)]) T = some (.tup [.int 0, .int (-1)]) := upd_same
    refine ⟨T, _, rfl, SqT.of hT2, rfl, .int 0, [.int (-1)], rfl, .int (-1), [], rfl, rfl, ?_⟩
    refine ⟨fun σ' H' => ∃ cell at_ : Int, σ' = [some (.ref a), some (.int m), some (.int cell), some (.int at_), none] ∧ Keep (Bd a c) H H' ∧ H' a = some (.lst [.ref c, .int (n + 1)]) ∧ H' c = some (.lst (cells.map V.int)) ∧ 0 ≤ cell ∧ (10 ^ 18 ≤ cell → ∃ j : Nat, j < cells.length ∧ at_ = (j : Int)), ?_, ?_⟩
    · refine ⟨.ref a, rfl, a, _, 0, .ref c, rfl, rfl, SqL.of hA2, atI_nat (j := 0) rfl, c, _, rfl, .inl (SqL.of hC2), _, _, rfl, rfl, _, rfl, ite2 (fun h0 => ?_) (fun h0 => ?_)⟩
      · have h0 := of_decide_eq_true h0
        rw [List.length_map] at h0
        obtain ⟨j, hj, ej⟩ : ∃ j : Nat, j < cells.length ∧ (n + 1) % ((cells.map V.int).length : Int) = (j : Int) := by
          rw [List.length_map]
          have x1 := Int.emod_nonneg (n + 1) (b := (cells.length : Int)) (by omega)
          have x2 := Int.emod_lt_of_pos (n + 1) (b := (cells.length : Int)) h0
          exact ⟨((n + 1) % (cells.length : Int)).toNat, by omega, by omega⟩
        have gj : (cells.map V.int)[j]? = some (.int cells[j]) := by
          rw [List.getElem?_map, List.getElem?_eq_getElem hj]
          rfl
        refine ⟨.ref a, rfl, a, _, 1, _, rfl, rfl, SqL.of hA2, atI_nat (j := 1) rfl, .inl ⟨n + 1, rfl, .ref a, rfl, a, _, 0, .ref c, rfl, rfl, SqL.of hA2, atI_nat (j := 0) rfl, c, _, rfl, .inl (SqL.of hC2), _, _, rfl, rfl, (by rw [List.length_map]; exact h0), ?_⟩⟩
        refine ⟨.ref a, rfl, a, _, 0, .ref c, rfl, rfl, SqL.of hA2, atI_nat (j := 0) rfl, .int j, by rw [← ej]; rfl, c, _, _, _, rfl, rfl, SqL.of hC2, atI_nat gj, ?_⟩
        exact ⟨cells[j], j, by rw [← ej]; rfl, k2, hA2, hC2, hpos _ (List.getElem_mem hj), fun _ => ⟨j, hj, rfl⟩⟩
      · exact ⟨0, -1, rfl, k2, hA2, hC2, Int.le_refl _, fun z => absurd z (by decide)⟩
    · rintro σ' H3 ⟨cell, at_, rfl, k3, hA3, hC3, hp, hj⟩
      refine ⟨_, rfl, 10, 18, rfl, rfl, ⟨by decide, by decide, by decide⟩, _, _, rfl, rfl, _, rfl, ite2 (fun h0 => ?_) (fun h0 => ?_)⟩
      · obtain ⟨j, hj2, ea⟩ := hj (of_decide_eq_true h0)
        subst ea
        refine ⟨_, rfl, .inl ⟨cell, rfl, _, rfl, _, _, rfl, rfl, wide_div (b := 20) (by omega) (by omega) (by decide) (by decide), .ref a, rfl, a, _, 0, .ref c, rfl, rfl, SqL.of hA3, atI_nat (j := 0) rfl, _, rfl, c, _, _, j, rfl, rfl, hC3, Evl.ixN_nat (by rw [List.length_map]; exact hj2), ?_⟩⟩
        refine ⟨_, rfl, .inl ⟨cell, rfl, _, rfl, _, _, rfl, rfl, (by omega), ?_⟩⟩
        refine k _ (cells.set j (cell / m)) _ (Int.emod_nonneg _ (by omega)) (Int.emod_lt_of_pos _ (by omega)) ⟨nac, ?_, ?_, ?_, ?_⟩ (k3.trans (keep_upd (.inr rfl)))
        · rw [upd_ne nac]
          exact hA3
        · rw [upd_same, List.map_set]
        · rw [List.length_set]
          exact hlen
        · intro z hz
          rcases List.mem_or_eq_of_mem_set hz with hz | hz
          · exact hpos z hz
          · rw [hz]
            exact Int.ediv_nonneg hp (by omega)
      · have b1 := Int.emod_nonneg cell (b := 2147483563) (by decide)
        have b2 := Int.emod_lt_of_pos cell (b := 2147483563) (by decide)
        refine ⟨_, rfl, .inl ⟨cell, rfl, _, _, rfl, rfl, (by show (0 : Int) < 2147483563; decide), .ref a, rfl, a, _, 1, _, rfl, rfl, SqL.of hA3, atI_nat (j := 1) rfl, 8117, n + 1, rfl, rfl, .inl ⟨by decide, by decide⟩, _, _, rfl, rfl, _, _, rfl, rfl, ?_⟩⟩
        refine ⟨_, rfl, cell % 2147483563 + 8117 * (n + 1) + 3, 5, rfl, rfl, ⟨by decide, by decide, by omega⟩, .inl ⟨_, rfl, _, _, rfl, rfl, (by show (0 : Int) < 2147483629; decide), .inl ⟨_, rfl, _, rfl, _, _, rfl, rfl, (by omega), ?_⟩⟩⟩
        exact k _ cells _ (Int.emod_nonneg _ (by omega)) (Int.emod_lt_of_pos _ (by omega)) ⟨nac, hA3, hC3, hlen, hpos⟩ k3
end
section
variable {P : Program} {w : World} {K : PySem.W.Frag} {mg : Str → Option Value} {base : Heap}
def spOne (K : PySem.W.Frag) : Sp := fun vs H Q _ => ∃ (a c l : Addr) (cells : List Int) (n : Int) (xs : List V), vs = [.ref a, .ref l] ∧ DeckAt a c cells n H ∧ 0 ≤ n ∧ n ≤ 1000000 ∧ SqL K H l xs ∧ ¬ Bd a c l ∧ xs ≠ [] ∧ xs.length ≤ 1000 ∧
  ∀ (H' : Hp) (cells' : List Int) (x : V), x ∈ xs → DeckAt a c cells' (n + 1) H' → Keep (Bd a c) H H' → Q x H'
theorem ok_one {f fD : Addr} {fd fdD : FuncData} (F : Fun K "_law_one" "_law_one" sOne f fd) (D : FnOk P w K mg base CX0 1 fD fdD ["_law_deck_here", "_law_many"] spDraw) (FD : Fun K "_law_draw" "_law_draw" sDraw fD fdD) (bD : Binds K fdD ["_law_deck_here", "_law_many"] [])
    (gD : mg "_law_draw" = some (.ref fD)) (mLen : mg "len" = none) : FnOk P w K mg base CX0 2 f fd ["_law_deck_here", "_law_items"] (spOne K) := by
  refine F.ok scOne (fun vs H Q E h => ?_) (fun cdv A outer s H vs Q E hr h => ?_)
  · obtain ⟨a, c, l, cells, n, xs, rfl, _⟩ := h
    rfl
  · obtain ⟨a, c, l, cells, n, xs, rfl, dk, n0, n1, hL, nb, hne, hlen, k⟩ := h
    refine ⟨_, pss_one (ps_ret (pe_ix ix_list (pv 1) (pe_call D hr (by rfl) gD FD.kp bD .nil pass0 (pa_cons (pv 0) (pa_cons (pe_callB call_len_seq (by rfl) mLen PySem.boot_len (pa_cons (pv 1) pa_nil)) pa_nil))) (fun _ _ => rfl))), ?_⟩
    have lp : 0 < xs.length := List.length_pos_iff.mpr hne
    refine ⟨_, rfl, _, rfl, _, rfl, l, xs, rfl, .inl hL, a, c, cells, n, _, rfl, dk, by omega, by omega, n0, n1, fun H' cells' r r0 r1 dk' kp => ?_⟩
    have hr2 : r.toNat < xs.length := by omega
    refine ⟨l, xs, r, xs[r.toNat], rfl, rfl, kp.seqL nb hL, ?_, k H' cells' _ (List.getElem_mem hr2) dk' kp⟩
    have e := atI_nat (List.getElem?_eq_getElem hr2)
    rw [show ((r.toNat : Nat) : Int) = r by omega] at e
    exact e
end
/-- the built-in names that nobody stores, and the program's constants -/
structure Mg (mg : Str → Option Value) : Prop where
  len : mg "len" = none
  int : mg "int" = none
  range : mg "range" = none
  tuple : mg "tuple" = none
  list : mg "list" = none
  all : mg "all" = none
  abs : mg "abs" = none
  bool : mg "bool" = none
  repr : mg "repr" = none
  any : mg "any" = none
  enum : mg "enumerate" = none
  max : mg "max" = none
  zip : mg "zip" = none
  dict : mg "dict" = none
  mrows : ∃ t, mg "MAX_ROWS" = some (.int 400 t)
  le : ∃ t, mg "LETTERS" = some (.str "abc" t)
  isi : mg "isinstance" = none
def tyN : PyData → String
  | .none => "NoneType"
  | .bool _ => "bool"
  | .int _ => "int"
  | .str _ => "str"
  | .list _ => "list"
  | .tuple _ => "tuple"
  | .dict _ => "dict"
theorem tyD {B : Addr → Prop} {K : PySem.W.Frag} {H : Hp} {v : V} {d : PyData} (h : Dt B K H v d) : TyX K H v (.type (tyN d)) := by
  cases h with
  | non => exact .base .non
  | bl b => exact .base (.bl b)
  | int i => exact .base (.int i)
  | str x => exact .base (.str x)
  | lst nb ne hs ha =>
    rcases hs with hs | ⟨o, hs⟩
    · exact .base (.lst hs)
    · exact .base (.frz hs)
  | tup nb hs ha =>
    rcases hs with hs | ⟨o, hs⟩
    · exact .base (.tup hs)
    · exact .fTuple hs
  | emp nb e => exact .base (.dK e)
def isInt : PyData → Bool
  | .int _ => true
  | .bool _ => true
  | _ => false
def isBool : PyData → Bool
  | .bool _ => true
  | _ => false
def isTup : PyData → Bool
  | .tuple _ => true
  | _ => false
theorem kitI {K : PySem.W.Frag} (d : PyData) : PySem.W.kitOne K (.type (tyN d)) (.type "int") = some (isInt d) := by
  cases d with
  | none => exact kit_ty (show kitB "NoneType" "int" = some false by decide +kernel)
  | bool _ => exact kit_ty (show kitB "bool" "int" = some true by decide +kernel)
  | int _ => exact kit_ty (show kitB "int" "int" = some true by decide +kernel)
  | str _ => exact kit_ty (show kitB "str" "int" = some false by decide +kernel)
  | list _ => exact kit_ty (show kitB "list" "int" = some false by decide +kernel)
  | tuple _ => exact kit_ty (show kitB "tuple" "int" = some false by decide +kernel)
  | dict _ => exact kit_ty (show kitB "dict" "int" = some false by decide +kernel)
theorem kitB' {K : PySem.W.Frag} (d : PyData) : PySem.W.kitOne K (.type (tyN d)) (.type "bool") = some (isBool d) := by
  cases d with
  | none => exact kit_ty (show kitB "NoneType" "bool" = some false by decide +kernel)
  | bool _ => exact kit_ty (show kitB "bool" "bool" = some true by decide +kernel)
  | int _ => exact kit_ty (show kitB "int" "bool" = some false by decide +kernel)
  | str _ => exact kit_ty (show kitB "str" "bool" = some false by decide +kernel)
  | list _ => exact kit_ty (show kitB "list" "bool" = some false by decide +kernel)
  | tuple _ => exact kit_ty (show kitB "tuple" "bool" = some false by decide +kernel)
  | dict _ => exact kit_ty (show kitB "dict" "bool" = some false by decide +kernel)
theorem kitT {K : PySem.W.Frag} (d : PyData) : PySem.W.kitOne K (.type (tyN d)) (.type "tuple") = some (isTup d) := by
  cases d with
  | none => exact kit_ty (show kitB "NoneType" "tuple" = some false by decide +kernel)
  | bool _ => exact kit_ty (show kitB "bool" "tuple" = some false by decide +kernel)
  | int _ => exact kit_ty (show kitB "int" "tuple" = some false by decide +kernel)
  | str _ => exact kit_ty (show kitB "str" "tuple" = some false by decide +kernel)
  | list _ => exact kit_ty (show kitB "list" "tuple" = some false by decide +kernel)
  | tuple _ => exact kit_ty (show kitB "tuple" "tuple" = some true by decide +kernel)
  | dict _ => exact kit_ty (show kitB "dict" "tuple" = some false by decide +kernel)
/-- an integer, no bool, within the bounds -/
def numD (d : PyData) (lo hi : Int) : Bool := match d with
  | .int i => decide (lo ≤ i) && decide (i ≤ hi)
  | _ => false
def spNum (K : PySem.W.Frag) : Sp := fun vs H Q _ => ∃ (B : Addr → Prop) (x : V) (d : PyData) (lo hi : Int), vs = [x, .int lo, .int hi] ∧ Dt B K H x d ∧ Q (.bl (numD d lo hi)) H
def intD : PyData → Bool
  | .int _ => true
  | _ => false
def spInt (K : PySem.W.Frag) : Sp := fun vs H Q _ => ∃ (B : Addr → Prop) (x : V) (d : PyData), vs = [x] ∧ Dt B K H x d ∧ Q (.bl (intD d)) H
def itemOk (n : Int) (d : PyData) : Bool := match d with
  | .none => true
  | d => numD d 0 (n - 1)
def rowD (L n : Int) (d : PyData) : Bool := match d with
  | .tuple xs => decide ((xs.length : Int) = L) && xs.all (itemOk n)
  | _ => false
theorem Dt.len_le {B : Addr → Prop} {K : PySem.W.Frag} {H : Hp} {a : Addr} {ds : List PyData} (h : Dt B K H (.ref a) (.tuple ds)) : ∃ xs, SqT K H a xs ∧ DtAll B K H xs ds ∧ xs.length = ds.length := by
  cases h with
  | tup nb hs ha => exact ⟨_, .inl hs, ha, ha.len⟩
theorem Dt.tup_ref {B : Addr → Prop} {K : PySem.W.Frag} {H : Hp} {v : V} {ds : List PyData} (h : Dt B K H v (.tuple ds)) : ∃ a xs, v = .ref a ∧ ¬ B a ∧ SqT K H a xs ∧ DtAll B K H xs ds ∧ xs.length = ds.length := by
  cases h with
  | tup nb hs ha => exact ⟨_, _, rfl, nb, .inl hs, ha, ha.len⟩
theorem Dt.tup_rd {B : Addr → Prop} {K : PySem.W.Frag} {H : Hp} {v : V} {ds : List PyData} (h : Dt B K H v (.tuple ds)) : ∃ a xs, v = .ref a ∧ ¬ B a ∧ Rd H a (.tup xs) ∧ DtAll B K H xs ds ∧ xs.length = ds.length := by
  cases h with
  | tup nb hs ha => exact ⟨_, _, rfl, nb, hs, ha, ha.len⟩
mutual
theorem Dt.off {B : Addr → Prop} {K : PySem.W.Frag} {H : Hp} {q : Addr} (n : H q = none) : ∀ (d : PyData) (v : V), Dt B K H v d → Dt (fun b => B b ∨ b = q) K H v d
  | .none, _, h => by cases h; exact .non
  | .bool _, _, h => by cases h; exact .bl _
  | .int _, _, h => by cases h; exact .int _
  | .str _, _, h => by cases h; exact .str _
  | .list ds, _, h => by
    cases h with
    | lst nb ne hs ha =>
      refine .lst (fun z => ?_) ne hs (DtAll.off n ds _ ha)
      rcases z with z | z
      · exact nb z
      · rw [z] at hs
        rcases hs with e | ⟨o, e⟩ <;> (rw [n] at e; cases e)
  | .tuple ds, _, h => by
    cases h with
    | tup nb hs ha =>
      refine .tup (fun z => ?_) hs (DtAll.off n ds _ ha)
      rcases z with z | z
      · exact nb z
      · rw [z] at hs
        rcases hs with e | ⟨o, e⟩ <;> (rw [n] at e; cases e)
  | .dict _, _, h => by
    cases h with
    | emp nb e =>
      refine .emp (fun z => ?_) e
      rcases z with z | z
      · exact nb z
      · rw [z, n] at e
        cases e
theorem DtAll.off {B : Addr → Prop} {K : PySem.W.Frag} {H : Hp} {q : Addr} (n : H q = none) : ∀ (ds : List PyData) (vs : List V), DtAll B K H vs ds → DtAll (fun b => B b ∨ b = q) K H vs ds
  | [], _, h => by cases h; exact .nil
  | d :: ds, _, h => by
    cases h with
    | cons h1 h2 => exact .cons (Dt.off n d _ h1) (DtAll.off n ds _ h2)
end
theorem same_dt {B : Addr → Prop} {K : PySem.W.Frag} {H H' : Hp} {v : V} {d : PyData} (s : Same H H') (h : Dt B K H v d) : Dt B K H' v d := Dt.keep (Keep.same s) d v h
theorem same_seqT {K : PySem.W.Frag} {H H' : Hp} {a : Addr} {xs : List V} (s : Same H H') (h : SqT K H a xs) : SqT K H' a xs := Keep.seqT (B := fun _ => False) (Keep.same s) (fun z => z) h
theorem all_take {f : PyData → Bool} {ds : List PyData} : ((ds.map f).all id) = ds.all f := by
  rw [List.all_map]
  rfl
mutual
def nodes : PyData → Nat
  | .list xs => 1 + nodesAll xs
  | .tuple xs => 1 + nodesAll xs
  | .none => 1
  | .bool _ => 1
  | .int _ => 1
  | .str _ => 1
  | .dict _ => 1
def nodesAll : List PyData → Nat
  | [] => 0
  | x :: xs => nodes x + nodesAll xs
end
theorem nodes_pos : ∀ d : PyData, 1 ≤ nodes d
  | .list xs => by unfold nodes; omega
  | .tuple xs => by unfold nodes; omega
  | .none => by unfold nodes; omega
  | .bool _ => by unfold nodes; omega
  | .int _ => by unfold nodes; omega
  | .str _ => by unfold nodes; omega
  | .dict _ => by unfold nodes; omega
theorem nodes_tup (xs : List PyData) : nodes (.tuple xs) = 1 + nodesAll xs := by rw [nodes]
theorem nodes_lst (xs : List PyData) : nodes (.list xs) = 1 + nodesAll xs := by rw [nodes]
theorem nodesAll_cons (x : PyData) (xs : List PyData) : nodesAll (x :: xs) = nodes x + nodesAll xs := by rw [nodesAll]
theorem nodesAll_nil : nodesAll [] = 0 := by rw [nodesAll]
theorem len_nodes : ∀ xs : List PyData, xs.length ≤ nodesAll xs
  | [] => Nat.zero_le _
  | x :: xs => by
    have := len_nodes xs
    have := nodes_pos x
    rw [nodesAll_cons, List.length_cons]
    omega
theorem mem_nodes : ∀ {xs : List PyData} {x : PyData}, x ∈ xs → nodes x ≤ nodesAll xs
  | [], _, h => absurd h List.not_mem_nil
  | y :: ys, x, h => by
    rw [nodesAll_cons]
    rcases List.mem_cons.mp h with e | e
    · rw [e]
      omega
    · have := mem_nodes e
      omega
theorem nodesAll_append : ∀ xs ys : List PyData, nodesAll (xs ++ ys) = nodesAll xs + nodesAll ys
  | [], ys => by rw [List.nil_append, nodesAll_nil, Nat.zero_add]
  | x :: xs, ys => by rw [List.cons_append, nodesAll_cons, nodesAll_cons, nodesAll_append xs ys, Nat.add_assoc]
def BInv (f : PyData → Bool) (ds : List PyData) (H : Hp) (D : Addr) (i : Nat) (H' : Hp) : Prop := Same H H' ∧ H' D = some (.lst ((ds.take i).map fun d => V.bl (f d)))
theorem bturn {B : Addr → Prop} {K : PySem.W.Frag} {H H' : Hp} {D : Addr} {xs : List V} {ds : List PyData} {f : PyData → Bool} {i : Nat} {y : V} (ha : DtAll B K H xs ds) (hz : ds.length < sizeLine) (hD : H D = none) (hy : xs[i]? = some y) (p : BInv f ds H D i H') :
    ∃ d, d ∈ ds ∧ Dt B K H' y d ∧ ∀ H'', Same H' H'' → ∀ b, b = f d → ∃ acc, H'' D = some (.lst acc) ∧ acc.length < sizeLine ∧ BInv f ds H D (i + 1) (upd H'' D (.lst (acc ++ [V.bl b]))) := by
  obtain ⟨sm, hD'⟩ := p
  obtain ⟨d, hd1, hd2⟩ := ha.getV hy
  refine ⟨d, List.mem_of_getElem? hd1, same_dt sm hd2, fun H'' s2 b eb => ⟨_, s2 _ _ hD', ?_, fun p o z => ?_, ?_⟩⟩
  · rw [List.length_map, List.length_take]
    omega
  · rw [upd_ne (ne_of_none z hD)]
    exact s2 _ _ (sm _ _ z)
  · rw [upd_same, List.take_add_one, hd1, List.map_append, eb]
    rfl
theorem bend {K : PySem.W.Frag} {H H' : Hp} {D : Addr} {n : Nat} {ds : List PyData} {f : PyData → Bool} (e : n = ds.length) (p : BInv f ds H D n H') : Same H H' ∧ SqL K H' D ((ds.map f).map V.bl) := by
  obtain ⟨sm, hD'⟩ := p
  rw [e, List.take_length] at hD'
  refine ⟨sm, SqL.of ?_⟩
  rw [hD', List.map_map]
  rfl
def rLen (K : PySem.W.Frag) : List V → Hp → VK → Prop := fun xs H Q => ∃ p ys, xs = [.ref p] ∧ (SqL K H p ys ∨ SqT K H p ys) ∧ Q (.int ys.length) H
theorem three_of {ds : List PyData} (h : ds.length = 3) : ∃ l r e, ds = [l, r, e] := by
  match ds, h with
  | [l, r, e], _ => exact ⟨l, r, e, rfl⟩
theorem dt_three {B : Addr → Prop} {K : PySem.W.Frag} {H : Hp} {xs : List V} {l r e : PyData} (h : DtAll B K H xs [l, r, e]) : ∃ vl vr ve, xs = [vl, vr, ve] ∧ Dt B K H vl l ∧ Dt B K H vr r ∧ Dt B K H ve e := by
  cases h with
  | cons h1 h =>
    cases h with
    | cons h2 h =>
      cases h with
      | cons h3 h =>
        cases h
        exact ⟨_, _, _, rfl, h1, h2, h3⟩
/-! ### a list, a tuple beside an empty one -/
section
variable {X : Cx}
def rNilL (K : PySem.W.Frag) (g : Bool → Bool) : R2 := fun x y H Q => ∃ (l b : Addr) (xs : List V), x = .ref l ∧ y = .ref b ∧ SqL K H l xs ∧ SqL K H b [] ∧ Q (.bl (g (decide (xs = [])))) H
def rNilT (K : PySem.W.Frag) : R2 := fun x y H Q => ∃ (l b : Addr) (xs : List V), x = .ref l ∧ y = .ref b ∧ SqT K H l xs ∧ SqT K H b [] ∧ Q (.bl (decide (xs = []))) H
theorem op_eqNilL (hu : X.A.units < cLine) : OpR X (compareOp .Eq) (rNilL X.K id) := by
  intro pins s σ H x y v u Q I rx ry h
  obtain ⟨l, b, xs, rfl, rfl, hl, hb, q⟩ := h
  cases rx
  cases ry
  obtain ⟨its, rv, pl, _⟩ := I.list hl
  obtain ⟨its2, rv2, pl2, _⟩ := I.list hb
  cases rv2
  have hn := rv.length
  cases xs with
  | nil =>
    cases rv
    exact SeqAt.eq_listAt (e := fun _ => true) pl.isList pl2.isList rfl hu (fun j h1 _ => absurd h1 (Nat.not_lt_zero _)) ⟨.bl _, H, I, rfl, q⟩
  | cons z zs =>
    refine SeqAt.eq_list_lengthsAt pl.isList pl2.isList ?_ hu ⟨.bl _, H, I, rfl, q⟩
    rw [List.size_toArray, ← hn]
    rfl
theorem op_neNilL (hu : X.A.units < cLine) : OpR X (compareOp .NotEq) (rNilL X.K not) := by
  intro pins s σ H x y v u Q I rx ry h
  obtain ⟨l, b, xs, rfl, rfl, hl, hb, q⟩ := h
  cases rx
  cases ry
  obtain ⟨its, rv, pl, _⟩ := I.list hl
  obtain ⟨its2, rv2, pl2, _⟩ := I.list hb
  cases rv2
  have hn := rv.length
  cases xs with
  | nil =>
    cases rv
    exact SeqAt.RcNeAt.lists (e := fun _ => true) pl.isList pl2.isList rfl hu (fun j h1 _ => absurd h1 (Nat.not_lt_zero _)) _ _ _ _ ⟨.bl _, H, I, rfl, q⟩
  | cons z zs =>
    refine SeqAt.RcNeAt.lists_lengths pl.isList pl2.isList ?_ hu _ _ _ _ ⟨.bl _, H, I, rfl, q⟩
    rw [List.size_toArray, ← hn]
    rfl
theorem op_eqNilT (hu : X.A.units < cLine) : OpR X (compareOp .Eq) (rNilT X.K) := by
  intro pins s σ H x y v u Q I rx ry h
  obtain ⟨l, b, xs, rfl, rfl, hl, hb, q⟩ := h
  cases rx
  cases ry
  obtain ⟨its, rv, pl, _⟩ := I.tuple hl
  obtain ⟨its2, rv2, pl2, _⟩ := I.tuple hb
  cases rv2
  have hn := rv.length
  refine SeqAt.eq_tupleAt (e := fun _ => true) pl pl2 hu (fun j h1 h2 => absurd h2 (Nat.not_lt_zero _)) ⟨.bl _, H, I, ?_, q⟩
  cases xs with
  | nil =>
    cases rv
    rfl
  | cons z zs =>
    show Value.bool _ = Value.bool _
    congr 1
    rw [List.size_toArray, ← hn]
    rfl
end
/-- what a comprehension holds that picks the items that fail -/
def FInv (f : PyData → Bool) (ds : List PyData) (H : Hp) (D : Addr) (i : Nat) (H' : Hp) : Prop :=
  Same H H' ∧ ∃ acc : List V, H' D = some (.lst acc) ∧ acc.length ≤ i ∧ (acc = [] ↔ (ds.take i).all f = true)
theorem fstart {f : PyData → Bool} {ds : List PyData} {H : Hp} {D : Addr} (hD : H D = none) : FInv f ds H D 0 (upd H D (.lst [])) :=
  ⟨same_new hD, [], upd_same, Nat.le_refl _, by simp⟩
theorem fturn {B : Addr → Prop} {K : PySem.W.Frag} {H H' : Hp} {D : Addr} {xs : List V} {ds : List PyData} {f : PyData → Bool} {i : Nat} {y : V} (ha : DtAll B K H xs ds) (hz : ds.length < sizeLine) (hD : H D = none) (hy : xs[i]? = some y) (p : FInv f ds H D i H') :
    ∃ d, d ∈ ds ∧ Dt B K H' y d ∧ (∀ H'', Same H' H'' → f d = true → FInv f ds H D (i + 1) H'') ∧
      ∀ H'', Same H' H'' → f d = false → ∃ acc, H'' D = some (.lst acc) ∧ acc.length < sizeLine ∧ FInv f ds H D (i + 1) (upd H'' D (.lst (acc ++ [y]))) := by
  obtain ⟨sm, acc, hD', hl, hi⟩ := p
  obtain ⟨d, hd1, hd2⟩ := ha.getV hy
  have hlt := (List.getElem?_eq_some_iff.mp hd1).1
  have ht : (ds.take (i + 1)).all f = ((ds.take i).all f && f d) := by
    rw [List.take_add_one, hd1, List.all_append]
    simp
  refine ⟨d, List.mem_of_getElem? hd1, same_dt sm hd2, fun H'' s2 fd => ⟨fun b o z => s2 b o (sm b o z), acc, s2 _ _ hD', by omega, ?_⟩, fun H'' s2 fd => ⟨acc, s2 _ _ hD', by omega, fun b o z => ?_, _, upd_same, ?_, ?_⟩⟩
  · rw [ht, fd, Bool.and_true]
    exact hi
  · rw [upd_ne (ne_of_none z hD)]
    exact s2 _ _ (sm _ _ z)
  · rw [List.length_append, List.length_singleton]
    omega
  · rw [ht, fd, Bool.and_false]
    exact ⟨fun z => absurd z (by simp), fun z => absurd z Bool.false_ne_true⟩
theorem fend {K : PySem.W.Frag} {H H' : Hp} {D : Addr} {n : Nat} {ds : List PyData} {f : PyData → Bool} (e : n = ds.length) (p : FInv f ds H D n H') : Same H H' ∧ ∃ acc, SqL K H' D acc ∧ decide (acc = []) = ds.all f := by
  obtain ⟨sm, acc, hD', hl, hi⟩ := p
  rw [e, List.take_length] at hi
  refine ⟨sm, acc, SqL.of hD', ?_⟩
  cases z : ds.all f
  · exact decide_eq_false (fun q => by rw [hi.mp q] at z; cases z)
  · exact decide_eq_true (hi.mpr z)
theorem itemOk_ne {B : Addr → Prop} {K : PySem.W.Frag} {H : Hp} {y : V} {d : PyData} {n : Int} (h : Dt B K H y d) (ne : y ≠ .non) : itemOk n d = numD d 0 (n - 1) := by
  cases h with
  | non => exact absurd rfl ne
  | bl _ => rfl
  | int _ => rfl
  | str _ => rfl
  | lst _ _ _ _ => rfl
  | tup _ _ _ => rfl
  | emp _ _ => rfl
theorem not_cases {b : Bool} (h : (!b) = true) : b = false := by
  cases b
  · rfl
  · cases h
theorem not_cases' {b : Bool} (h : ¬ (!b) = true) : b = true := by
  cases b
  · exact absurd rfl h
  · rfl
/-! ### while the deck is drawn from -/
theorem deck_upd {a c p : Addr} {cells : List Int} {n : Int} {H : Hp} {o : HO} (h : DeckAt a c cells n H) (np : ¬ Bd a c p) : DeckAt a c cells n (upd H p o) := by
  obtain ⟨h1, h2, h3, h4, h5⟩ := h
  refine ⟨h1, ?_, ?_, h4, h5⟩
  · rw [upd_ne (fun z : a = p => np (.inl z.symm))]
    exact h2
  · rw [upd_ne (fun z : c = p => np (.inr z.symm))]
    exact h3
theorem deck_off {a c p : Addr} {cells : List Int} {n : Int} {H : Hp} (h : DeckAt a c cells n H) (np : H p = none) : ¬ Bd a c p := bd_new np h.2.1 h.2.2.1
theorem deck_new {a c p : Addr} {cells : List Int} {n : Int} {H : Hp} {o : HO} (h : DeckAt a c cells n H) (np : H p = none) : DeckAt a c cells n (upd H p o) := deck_upd h (deck_off h np)
/-- a list that is made at D while the deck is drawn from: at most s draws an item -/
def CInv (a c D : Addr) (H0 : Hp) (G : V → Prop) (n0 s : Int) (j : Nat) (H' : Hp) : Prop :=
  ∃ (cells : List Int) (n' : Int) (acc : List V), DeckAt a c cells n' H' ∧ n0 ≤ n' ∧ n' ≤ n0 + s * j ∧ Keep (Bd a c) H0 H' ∧ H' D = some (.lst acc) ∧ acc.length = j ∧ ∀ v ∈ acc, G v
theorem cstart {a c D : Addr} {H0 : Hp} {G : V → Prop} {cells : List Int} {n0 s : Int} (dk : DeckAt a c cells n0 H0) (hD : H0 D = none) : CInv a c D H0 G n0 s 0 (upd H0 D (.lst [])) :=
  ⟨cells, n0, [], deck_new dk hD, Int.le_refl _, by simp, keep_new hD, upd_same, rfl, fun v z => absurd z List.not_mem_nil⟩
theorem cstep {a c D : Addr} {H0 H1 H2 : Hp} {G : V → Prop} {cells2 : List Int} {n0 s n1 n2 : Int} {j : Nat} {acc : List V} {v : V} (hD0 : H0 D = none) (nD : ¬ Bd a c D) (hj : j ≤ 1000) (h0 : n0 ≤ n1) (h1 : n1 ≤ n0 + s * j) (kp : Keep (Bd a c) H0 H1) (hD : H1 D = some (.lst acc)) (hl : acc.length = j)
    (hG : ∀ v ∈ acc, G v) (dk : DeckAt a c cells2 n2 H2) (h2 : n1 ≤ n2) (h3 : n2 ≤ n1 + s) (k2 : Keep (Bd a c) H1 H2) (g : G v) :
    ∃ acc', H2 D = some (.lst acc') ∧ acc'.length < sizeLine ∧ CInv a c D H0 G n0 s (j + 1) (upd H2 D (.lst (acc' ++ [v]))) := by
  refine ⟨acc, k2 _ _ nD hD, small1000 (by omega), cells2, n2, acc ++ [v], deck_upd dk nD, by omega, ?_, fun b o nb z => ?_, upd_same, ?_, fun u hu => ?_⟩
  · have e : s * ((j + 1 : Nat) : Int) = s * j + s := by
      rw [Int.natCast_add, Int.mul_add]
      simp
    rw [e]
    omega
  · rw [upd_ne (ne_of_none z hD0)]
    exact k2 _ _ nb (kp _ _ nb z)
  · rw [List.length_append, hl]
    rfl
  · rcases List.mem_append.mp hu with hu | hu
    · exact hG u hu
    · rw [List.mem_singleton.mp hu]
      exact g
/-- an item of a row: None, or the number of a state -/
def Gi (m : Int) (v : V) : Prop := v = .non ∨ ∃ k : Int, v = .int k ∧ 0 ≤ k ∧ k < m
def Ri (m : Int) (d : PyData) : Prop := d = .none ∨ ∃ k : Int, d = .int k ∧ 0 ≤ k ∧ k < m
theorem gi_dt {m : Int} : ∀ {acc : List V}, (∀ v ∈ acc, Gi m v) → ∃ ds : List PyData, (∀ (B : Addr → Prop) (K : PySem.W.Frag) (H : Hp), DtAll B K H acc ds) ∧ ds.length = acc.length ∧ ∀ d ∈ ds, Ri m d
  | [], _ => ⟨[], fun _ _ _ => .nil, rfl, fun d z => absurd z List.not_mem_nil⟩
  | v :: acc, h => by
    obtain ⟨ds, h1, h2, h3⟩ := gi_dt (acc := acc) fun u hu => h u (List.mem_cons_of_mem _ hu)
    rcases h v List.mem_cons_self with e | ⟨k, e, k0, k1⟩
    · subst e
      refine ⟨.none :: ds, fun B K H => .cons .non (h1 B K H), by rw [List.length_cons, List.length_cons, h2], fun d hd => ?_⟩
      rcases List.mem_cons.mp hd with hd | hd
      · exact .inl hd
      · exact h3 d hd
    · subst e
      refine ⟨.int k :: ds, fun B K H => .cons (.int k) (h1 B K H), by rw [List.length_cons, List.length_cons, h2], fun d hd => ?_⟩
      rcases List.mem_cons.mp hd with hd | hd
      · exact .inr ⟨k, hd, k0, k1⟩
      · exact h3 d hd
def Gb (v : V) : Prop := ∃ b, v = .bl b
theorem gb_dt : ∀ {acc : List V}, (∀ v ∈ acc, Gb v) → ∃ ds : List PyData, (∀ (B : Addr → Prop) (K : PySem.W.Frag) (H : Hp), DtAll B K H acc ds) ∧ ds.length = acc.length ∧ ∀ d ∈ ds, isBool d = true
  | [], _ => ⟨[], fun _ _ _ => .nil, rfl, fun d z => absurd z List.not_mem_nil⟩
  | v :: acc, h => by
    obtain ⟨ds, h1, h2, h3⟩ := gb_dt (acc := acc) fun u hu => h u (List.mem_cons_of_mem _ hu)
    obtain ⟨b, e⟩ := h v List.mem_cons_self
    subst e
    refine ⟨.bool b :: ds, fun B K H => .cons (.bl b) (h1 B K H), by rw [List.length_cons, List.length_cons, h2], fun d hd => ?_⟩
    rcases List.mem_cons.mp hd with hd | hd
    · rw [hd]
      rfl
    · exact h3 d hd
def RowD (L m : Int) (d : PyData) : Prop := ∃ is : List PyData, d = .tuple is ∧ (is.length : Int) = L ∧ ∀ i ∈ is, Ri m i
def B3 (a c R : Addr) : Addr → Prop := fun b => Bd a c b ∨ b = R
mutual
theorem Dt.weak {B B' : Addr → Prop} {K : PySem.W.Frag} {H : Hp} (k : ∀ b, B' b → B b) : ∀ (d : PyData) (v : V), Dt B K H v d → Dt B' K H v d
  | .none, _, h => by cases h; exact .non
  | .bool _, _, h => by cases h; exact .bl _
  | .int _, _, h => by cases h; exact .int _
  | .str _, _, h => by cases h; exact .str _
  | .list ds, _, h => by
    cases h with
    | lst nb ne hs ha => exact .lst (fun z => nb (k _ z)) ne hs (DtAll.weak k ds _ ha)
  | .tuple ds, _, h => by
    cases h with
    | tup nb hs ha => exact .tup (fun z => nb (k _ z)) hs (DtAll.weak k ds _ ha)
  | .dict _, _, h => by
    cases h with
    | emp nb e => exact .emp (fun z => nb (k _ z)) e
theorem DtAll.weak {B B' : Addr → Prop} {K : PySem.W.Frag} {H : Hp} (k : ∀ b, B' b → B b) : ∀ (ds : List PyData) (vs : List V), DtAll B K H vs ds → DtAll B' K H vs ds
  | [], _, h => by cases h; exact .nil
  | d :: ds, _, h => by
    cases h with
    | cons h1 h2 => exact .cons (Dt.weak k d _ h1) (DtAll.weak k ds _ h2)
end
theorem Keep.wide {B B' : Addr → Prop} {H H' : Hp} (k : ∀ b, B b → B' b) (h : Keep B H H') : Keep B' H H' := fun b o n e => h b o (fun z => n (k b z)) e
/-- the rows that are made so far -/
def MInv (K : PySem.W.Frag) (a c R : Addr) (H : Hp) (L m n0 : Int) (i : Nat) (H' : Hp) : Prop :=
  ∃ (cells : List Int) (n' : Int) (rvs : List V) (rds : List PyData), DeckAt a c cells n' H' ∧ n0 ≤ n' ∧ n' ≤ n0 + 6 * i ∧ Keep (Bd a c) H H' ∧ H' R = some (.lst rvs) ∧ DtAll (B3 a c R) K H' rvs rds ∧ rds.length = i ∧ ∀ r ∈ rds, RowD L m r
theorem mstep {K : PySem.W.Frag} {a c R q : Addr} {H H1 H2 : Hp} {L m n0 n1 n2 : Int} {i : Nat} {rvs acc : List V} {rds : List PyData} {cells2 : List Int} (hR0 : H R = none) (nR : ¬ Bd a c R) (hi : i ≤ 1000) (h0 : n0 ≤ n1) (h1 : n1 ≤ n0 + 6 * i) (kp : Keep (Bd a c) H H1) (hR : H1 R = some (.lst rvs)) (hd : DtAll (B3 a c R) K H1 rvs rds)
    (hl : rds.length = i) (hr : ∀ r ∈ rds, RowD L m r) (k2 : Keep (Bd a c) H1 H2) (dk : DeckAt a c cells2 n2 H2) (h2 : n1 ≤ n2) (h3 : n2 ≤ n1 + 6) (hG : ∀ v ∈ acc, Gi m v) (hL : (acc.length : Int) = L) (hq : H2 q = none) :
    ∃ rvs', (upd H2 q (.tup acc)) R = some (.lst rvs') ∧ rvs'.length < sizeLine ∧ MInv K a c R H L m n0 (i + 1) (upd (upd H2 q (.tup acc)) R (.lst (rvs' ++ [.ref q]))) := by
  have hR2 := k2 _ _ nR hR
  have nq : R ≠ q := ne_of_none hR2 hq
  have k3 : Keep (B3 a c R) H1 (upd (upd H2 q (.tup acc)) R (.lst (rvs ++ [.ref q]))) := fun b o nb z => by
    rw [upd_ne (fun z : b = R => nb (.inr z)), upd_ne (ne_of_none (k2 _ _ (fun z => nb (.inl z)) z) hq)]
    exact k2 _ _ (fun z => nb (.inl z)) z
  obtain ⟨ds, g1, g2, g3⟩ := gi_dt hG
  have hlv := hd.len
  refine ⟨rvs, by rw [upd_ne nq]; exact hR2, small1000 (by omega), cells2, n2, rvs ++ [.ref q], rds ++ [.tuple ds], deck_upd (deck_new dk hq) nR, by omega, by omega, fun b o nb z => ?_, upd_same, ?_, ?_, ?_⟩
  · rw [upd_ne (ne_of_none z hR0), upd_ne (ne_of_none (k2 _ _ nb (kp _ _ nb z)) hq)]
    exact k2 _ _ nb (kp _ _ nb z)
  · refine (DtAll.keep k3 _ _ hd).append (.cons (.tup (xs := acc) ?_ (.inl ?_) (g1 _ _ _)) .nil)
    · rintro (z | z)
      · exact deck_off dk hq z
      · exact nq z.symm
    · rw [upd_ne nq.symm, upd_same]
  · rw [List.length_append, hl]
    rfl
  · intro r hr2
    rcases List.mem_append.mp hr2 with hr2 | hr2
    · exact hr r hr2
    · rw [List.mem_singleton.mp hr2]
      exact ⟨ds, rfl, by rw [g2]; exact hL, g3⟩
def rTup (K : PySem.W.Frag) : List V → Hp → VK → Prop := fun xs H Q => ∃ p ys, xs = [.ref p] ∧ ((SqL K H p ys ∧ ∀ l, H l = none → Q (.ref l) (upd H l (.tup ys))) ∨ (SqT K H p ys ∧ Q (.ref p) H))
section
variable {P : Program} {w : World} {K : PySem.W.Frag} {mg : Str → Option Value} {base : Heap}
theorem scMach : FnScope ["_law_deck_here", "_law_letters", "_law_most", "_law_many", "_law_way", "_law_rows", "_law_state", "_law_at", "_law_further", "_law_items", "_law_item", "_law_often"] ["_law_deck_here", "_law_letters", "_law_most"] (defScope sMach) := ⟨rfl, rfl, rfl, by decide +kernel, rfl, by decide +kernel, by decide +kernel⟩
def MachD (K : PySem.W.Frag) (a c : Addr) (H : Hp) (v : V) (L M : Int) (rs es : List PyData) : Prop :=
  Dt (Bd a c) K H v (.tuple [.int L, .tuple rs, .tuple es]) ∧ 1 ≤ rs.length ∧ (rs.length : Int) ≤ M ∧ es.length = rs.length ∧ (∀ r ∈ rs, RowD L rs.length r) ∧ ∀ e ∈ es, isBool e = true
def spMach (K : PySem.W.Frag) : Sp := fun vs H Q _ => ∃ (a c : Addr) (cells : List Int) (n L M : Int), vs = [.ref a, .int L, .int M] ∧ DeckAt a c cells n H ∧ 0 ≤ n ∧ n ≤ 900000 ∧ 1 ≤ L ∧ L ≤ 3 ∧ 1 ≤ M ∧ M ≤ 10 ∧
  ∀ (H' : Hp) (cells' : List Int) (n' : Int) (v : V) (rs es : List PyData), DeckAt a c cells' n' H' → n ≤ n' → n' ≤ n + 100 → Keep (Bd a c) H H' → MachD K a c H' v L M rs es → Q v H'
theorem ok_mach {f fD fO : Addr} {fd fdD fdO : FuncData} (F : Fun K "_law_machine" "_law_machine" sMach f fd) (D : FnOk P w K mg base CX0 1 fD fdD ["_law_deck_here", "_law_many"] spDraw) (FD : Fun K "_law_draw" "_law_draw" sDraw fD fdD) (bD : Binds K fdD ["_law_deck_here", "_law_many"] []) (gD : mg "_law_draw" = some (.ref fD))
    (O : FnOk P w K mg base CX0 2 fO fdO ["_law_deck_here", "_law_items"] (spOne K)) (FO : Fun K "_law_one" "_law_one" sOne fO fdO) (bO : Binds K fdO ["_law_deck_here", "_law_items"] []) (gO : mg "_law_one" = some (.ref fO)) (T : Mg mg) :
    FnOk P w K mg base CX0 3 f fd ["_law_deck_here", "_law_letters", "_law_most"] (spMach K) := by
  refine F.ok scMach (fun vs H Q E h => ?_) (fun cdv A outer s H vs Q E hr h => ?_)
  · obtain ⟨a, c, cells, n, L, M, rfl, _⟩ := h
    rfl
  · obtain ⟨a, c, cells, n, L, M, rfl, dk, n0, n1, l1, l3, m1, m10, k⟩ := h
    refine ⟨_, pss_cons (ps_asg (pe_tup (pa_cons (pe_op op_add pe_int (pe_call D (hr.mono (by decide)) (by rfl) gD FD.kp bD .nil pass0 (pa_cons (pv 0) (pa_cons (pv 2) pa_nil)))) (pa_cons (pe_call D (hr.mono (by decide)) (by rfl) gD FD.kp bD .nil pass0 (pa_cons (pv 0) (pa_cons pe_int pa_nil))) (pa_cons (pe_lst pa_nil) pa_nil)))) (pg_tup rfl (pgs_cons (pg_name (i := 3) scMach.nd rfl (.inr rfl)) (pgs_cons (pg_name (i := 4) scMach.nd rfl (.inr rfl)) (pgs_cons (pg_name (i := 5) scMach.nd rfl (.inl rfl)) pgs_nil)))))
      (pss_cons (ps_for PassesOwn.never rfl (pi_range1 (by rfl) T.range (pa_cons (pv 3) pa_nil)) (pg_name (i := 6) scMach.nd rfl (.inr rfl))
        (pss_one (ps_if (pt_cmpR op_eq (pv 4) pe_int (nomark _)) (pss_one (ps_expr (pe_bm PySem.F.plainAttrs_list PySem.F.slot_list_append PySem.F.type_list_append mt_append (pv 5) (pa_cons (pe_callTy (r := rTup K) call_tuple_of (by rfl) T.tuple PyProof.Rows.boot_tuple (pa_cons (pe_lc (own := [("_law_at", 7)]) (g := gName 7) (tt := tYes) rfl scMach.nd (pi_range1 (by rfl) T.range (pa_cons (pv 1) pa_nil)) (blkOk_by (N := ["_law_deck_here", "_law_letters", "_law_most", "_law_many", "_law_way", "_law_rows", "_law_state", "_law_at", "_law_further", "_law_items", "_law_item", "_law_often"]) (sc := defScope sMach) (by decide +kernel)) (fun _ _ _ _ _ => pg_name (i := 7) scMach.nd rfl (Or.inl rfl)) (fun _ _ _ _ _ => pts_nil) (fun _ _ _ _ _ => pe_op op_mod (pe_callTy call_int1 (by rfl) T.int PyProof.Rows.boot_int (pa_cons (pe_op op_add (pv 6) pe_int) pa_nil)) (pv 3))) pa_nil)) pa_nil))))
          (pss_one (ps_if (pt_cmpR op_eq (pv 4) pe_int (nomark _))
            (pss_cons (ps_set (i := 8) scMach.nd rfl (.inr rfl) (pe_lst (pa_cons (pe_ifExp (pt_cmpR op_lt (pe_op op_add (pv 6) pe_int) (pv 3) (nomark _)) (pe_op op_add (pv 6) pe_int) pe_non) (pa_cons (pv 6) (pa_cons pe_non pa_nil)))))
              (pss_one (ps_expr (pe_bm PySem.F.plainAttrs_list PySem.F.slot_list_append PySem.F.type_list_append mt_append (pv 5) (pa_cons (pe_callTy (r := rTup K) call_tuple_of (by rfl) T.tuple PyProof.Rows.boot_tuple (pa_cons (pe_lc (own := [("_law_at", 7)]) (g := gName 7) (tt := tYes) rfl scMach.nd (pi_range1 (by rfl) T.range (pa_cons (pv 1) pa_nil)) (blkOk_by (N := ["_law_deck_here", "_law_letters", "_law_most", "_law_many", "_law_way", "_law_rows", "_law_state", "_law_at", "_law_further", "_law_items", "_law_item", "_law_often"]) (sc := defScope sMach) (by decide +kernel)) (fun _ _ _ _ _ => pg_name (i := 7) scMach.nd rfl (Or.inl rfl)) (fun _ _ _ _ _ => pts_nil) (fun _ _ _ _ _ => (pe_call O hr (by rfl) gO FO.kp bO .nil pass0 (pa_cons (pv 0) (pa_cons (pv 8) pa_nil))))) pa_nil)) pa_nil)))))
            (pss_cons (ps_setLc (i := 9) (own := [("_law_at", 7)]) (g := gName 7) (tt := tYes) rfl scMach.nd rfl rfl (sw_true rfl rfl rfl (by decide +kernel)) (pi_range1 (by rfl) T.range (pa_cons (pv 1) pa_nil)) (blkOk_by (N := ["_law_deck_here", "_law_letters", "_law_most", "_law_many", "_law_way", "_law_rows", "_law_state", "_law_at", "_law_further", "_law_items", "_law_item", "_law_often"]) (sc := defScope sMach) (by decide +kernel)) (fun _ _ _ _ _ => pg_name (i := 7) scMach.nd rfl (Or.inl rfl)) (fun _ _ _ _ _ => pts_nil) (fun _ _ _ _ _ => (pe_call D (hr.mono (by decide)) (by rfl) gD FD.kp bD .nil pass0 (pa_cons (pv 0) (pa_cons (pv 3) pa_nil)))))
              (pss_one (ps_expr (pe_bm PySem.F.plainAttrs_list PySem.F.slot_list_append PySem.F.type_list_append mt_append (pv 5) (pa_cons (pe_callTy (r := rTup K) call_tuple_of (by rfl) T.tuple PyProof.Rows.boot_tuple (pa_cons (pe_lc (own := [("_law_item", 10)]) (g := gName 10) (tt := tYes) rfl scMach.nd (pi_list (pv 9)) (blkOk_by (N := ["_law_deck_here", "_law_letters", "_law_most", "_law_many", "_law_way", "_law_rows", "_law_state", "_law_at", "_law_further", "_law_items", "_law_item", "_law_often"]) (sc := defScope sMach) (by decide +kernel)) (fun _ _ _ _ _ => pg_name (i := 10) scMach.nd rfl (Or.inl rfl)) (fun _ _ _ _ _ => pts_nil) (fun _ _ _ _ _ => pe_ifExp (pt_cmpR op_eq (pe_call D (hr.mono (by decide)) (by rfl) gD FD.kp bD .nil pass0 (pa_cons (pv 0) (pa_cons (pe_op op_add pe_int (pv 4)) pa_nil))) pe_int (nomark _)) pe_non (pv 10))) pa_nil)) pa_nil))))))))))
      (pss_cons (ps_set (i := 11) scMach.nd rfl (.inr rfl) (pe_call O hr (by rfl) gO FO.kp bO .nil pass0 (pa_cons (pv 0) (pa_cons (pe_lst (pa_cons pe_int (pa_cons pe_int (pa_cons pe_int (pa_cons pe_int pa_nil))))) pa_nil))))
      (pss_one (ps_ret (pe_tup (pa_cons (pv 1) (pa_cons (pe_callTy (r := rTup K) call_tuple_of (by rfl) T.tuple PyProof.Rows.boot_tuple (pa_cons (pv 5) pa_nil)) (pa_cons (pe_callTy (r := rTup K) call_tuple_of (by rfl) T.tuple PyProof.Rows.boot_tuple (pa_cons (pe_lc (own := [("_law_state", 6)]) (g := gName 6) (tt := tYes) rfl scMach.nd (pi_range1 (by rfl) T.range (pa_cons (pv 3) pa_nil)) (blkOk_by (N := ["_law_deck_here", "_law_letters", "_law_most", "_law_many", "_law_way", "_law_rows", "_law_state", "_law_at", "_law_further", "_law_items", "_law_item", "_law_often"]) (sc := defScope sMach) (by decide +kernel)) (fun _ _ _ _ _ => pg_name (i := 6) scMach.nd rfl (Or.inl rfl)) (fun _ _ _ _ _ => pts_nil) (fun _ _ _ _ _ => pe_cmpR op_eq (pe_call D (hr.mono (by decide)) (by rfl) gD FD.kp bD .nil pass0 (pa_cons (pv 0) (pa_cons (pv 11) pa_nil))) pe_int (nomark _))) pa_nil)) pa_nil)))))))), ?_⟩
    refine ⟨_, rfl, _, rfl, a, c, cells, n, M, rfl, dk, m1, by omega, n0, by omega, fun H1 cells1 r1 r0 rM dk1 k1 => ?_⟩
    refine ⟨1, r1, rfl, rfl, _, rfl, a, c, cells1, n + 1, 5, rfl, dk1, by decide, by decide, by omega, by omega, fun H2 cells2 r2 r20 r25 dk2 k2 => ?_⟩
    refine ⟨Nat.zero_le _, fun R hR => ?_⟩
    have nR := deck_off dk2 hR
    have k12 := k1.trans k2
    have dk3 := deck_new (o := .lst []) dk2 hR
    have k3 := k12.trans (keep_new (B := Bd a c) (o := .lst []) hR)
    have hR3 : upd H2 R (.lst []) R = some (.lst []) := upd_same
    refine ⟨(by show 3 ≤ sizeLine; decide), fun T3 hT => ?_⟩
    have dk4 := deck_new (o := .tup [.int (1 + r1), .int r2, .ref R]) dk3 hT
    have k4 := k3.trans (keep_new (B := Bd a c) (o := .tup [.int (1 + r1), .int r2, .ref R]) hT)
    have hR4 : upd (upd H2 R (.lst [])) T3 (.tup [.int (1 + r1), .int r2, .ref R]) R = some (.lst []) := by
      rw [upd_ne (ne_of_none hR3 hT)]
      exact hR3
    have hT4 : upd (upd H2 R (.lst [])) T3 (.tup [.int (1 + r1), .int r2, .ref R]) T3 = some (.tup [.int (1 + r1), .int r2, .ref R]) := upd_same
    have hR0 : H R = none := by
      cases z : H R with
      | none => rfl
      | some o =>
        rw [k12 _ _ nR z] at hR
        cases hR
    refine ⟨T3, _, rfl, SqT.of hT4, rfl, _, _, rfl, _, _, rfl, _, _, rfl, rfl, ?_⟩
    obtain ⟨m, em⟩ : ∃ m, m = 1 + r1 := ⟨_, rfl⟩
    have hm1 : 1 ≤ m := by omega
    have hmM : m ≤ M := by omega
    have lo62 : ∀ z : Int, 0 ≤ z → z ≤ 10 → -(2 ^ 62) ≤ z ∧ z < 2 ^ 62 := fun z z0 z1 => ⟨by omega, by omega⟩
    refine ⟨_, rfl, m, by rw [em], (lo62 m (by omega) (by omega)).1, (lo62 m (by omega) (by omega)).2, ?_⟩
    refine for_range (lo := 0) (n := m.toNat) (fun i σ H' => (∃ y6 y8 y9, σ = [some (.ref a), some (.int L), some (.int M), some (.int m), some (.int r2), some (.ref R), y6, none, y8, y9, none, none]) ∧ MInv K a c R H L m (n + 2) i H')
      ⟨⟨none, none, none, by rw [em]; rfl⟩, cells2, n + 1 + 1, [], [], dk4, by omega, by omega, k4, hR4, .nil, rfl, fun r z => absurd z List.not_mem_nil⟩ ?_ ?_
    · rintro i σ H5 hi ⟨⟨y6, y8, y9, rfl⟩, cells5, n5, rvs, rds, dk5, hn5, hn5', k5, hR5, hd5, hl5, hr5⟩
      have hi10 : i < 10 := by omega
      -- what each of the three ways has at its end
      have stp : ∀ (y8' y9' : Option V) (H6 : Hp) (cells6 : List Int) (n6 : Int) (acc : List V) (q : Addr), Keep (Bd a c) H5 H6 → DeckAt a c cells6 n6 H6 → n5 ≤ n6 → n6 ≤ n5 + 6 → (∀ v ∈ acc, Gi m v) → (acc.length : Int) = L → H6 q = none →
          ∃ rvs', (upd H6 q (.tup acc)) R = some (.lst rvs') ∧ rvs'.length < sizeLine ∧ ((∃ y6 y8 y9, [some (V.ref a), some (.int L), some (.int M), some (.int m), some (.int r2), some (.ref R), some (.int (0 + i)), none, y8', y9', none, none] = [some (V.ref a), some (.int L), some (.int M), some (.int m), some (.int r2), some (.ref R), y6, none, y8, y9, none, none]) ∧ MInv K a c R H L m (n + 2) (i + 1) (upd (upd H6 q (.tup acc)) R (.lst (rvs' ++ [.ref q])))) := by
        intro y8' y9' H6 cells6 n6 acc q k6 dk6 h1 h2 hG hL hq
        obtain ⟨rvs', e1, e2, e3⟩ := mstep hR0 nR (by omega) hn5 hn5' k5 hR5 hd5 hl5 hr5 k6 dk6 h1 h2 hG hL hq
        exact ⟨rvs', e1, e2, ⟨_, _, _, rfl⟩, e3⟩
      refine ⟨_, rfl, rfl, _, rfl, ite2 (fun hw0 => ?_) (fun hw0 => ?_)⟩
      · -- a ring
        refine ⟨.ref R, rfl, .inl ⟨rfl, _, SqL.of hR5⟩, ?_⟩
        refine ⟨_, rfl, L, rfl, (lo62 L (by omega) (by omega)).1, (lo62 L (by omega) (by omega)).2, fun D hD => ?_⟩
        have nD := deck_off dk5 hD
        refine lc_range (lo := 0) (n := L.toNat) (CInv a c D H5 (Gi m) n5 0) (cstart dk5 hD) ?_ ?_
        · rintro j H6 hj ⟨cells6, n6, acc, dk6, h1, h2, k6, hD6, hl6, hG6⟩
          refine ⟨rfl, _, rfl, _, 1, rfl, rfl, .inl ⟨_, rfl, _, rfl, _, m, rfl, rfl, by omega, ?_⟩⟩
          exact cstep hD nD (by omega) h1 h2 k6 hD6 hl6 hG6 dk6 (Int.le_refl _) (by omega) Keep.rfl' (.inr ⟨_, rfl, Int.emod_nonneg _ (by omega), Int.emod_lt_of_pos _ (by omega)⟩)
        · rintro H6 ⟨cells6, n6, acc, dk6, h1, h2, k6, hD6, hl6, hG6⟩
          refine ⟨D, acc, rfl, .inl ⟨SqL.of hD6, fun q hq => ?_⟩⟩
          obtain ⟨rvs', e1, e2, e3⟩ := stp y8 y9 H6 cells6 n6 acc q k6 dk6 h1 (by omega) hG6 (by rw [hl6]; omega) hq
          exact ⟨R, _, _, rfl, rfl, e1, e2, e3⟩
      · refine ⟨_, rfl, rfl, _, rfl, ite2 (fun hw1 => ?_) (fun hw1 => ?_)⟩
        · -- a row of states
          refine ⟨_, rfl, _, 1, rfl, rfl, _, rfl, _, m, rfl, rfl, _, rfl, ite2 (fun hlt => ?_) (fun hlt => ?_)⟩
          · have hlt := of_decide_eq_true hlt
            refine ⟨_, rfl, _, 1, rfl, rfl, _, rfl, (by show 3 ≤ sizeLine; decide), fun Fu hFu => ?_⟩
            have g0 : Gi m (.int (0 + i + 1)) := .inr ⟨_, rfl, by omega, by omega⟩
            have g1 : Gi m (.int (0 + i)) := .inr ⟨_, rfl, by omega, by omega⟩
            have dkF := deck_new (o := .lst [V.int (0 + i + 1), .int (0 + i), .non]) dk5 hFu
            have nF := deck_off dk5 hFu
            have kF : Keep (Bd a c) H5 (upd H5 Fu (.lst [V.int (0 + i + 1), .int (0 + i), .non])) := keep_new hFu
            have hRF := kF _ _ nR hR5
            have hFF : upd H5 Fu (.lst [V.int (0 + i + 1), .int (0 + i), .non]) Fu = some (.lst [V.int (0 + i + 1), .int (0 + i), .non]) := upd_same
            have gF : ∀ x ∈ [V.int (0 + i + 1), V.int (0 + i), V.non], Gi m x := fun x hx => by
              rcases List.mem_cons.mp hx with hx | hx
              · rw [hx]
                exact g0
              · rcases List.mem_cons.mp hx with hx | hx
                · rw [hx]
                  exact g1
                · rw [List.mem_singleton.mp hx]
                  exact .inl rfl
            refine ⟨.ref R, rfl, .inl ⟨rfl, _, SqL.of hRF⟩, ?_⟩
            refine ⟨_, rfl, L, rfl, (lo62 L (by omega) (by omega)).1, (lo62 L (by omega) (by omega)).2, fun D hD => ?_⟩
            have nD := deck_off dkF hD
            refine lc_range (lo := 0) (n := L.toNat) (CInv a c D (upd H5 Fu (.lst [V.int (0 + i + 1), .int (0 + i), .non])) (Gi m) n5 1) (cstart dkF hD) ?_ ?_
            · rintro j H6 hj ⟨cells6, n6, acc, dk6, h1, h2, k6, hD6, hl6, hG6⟩
              refine ⟨rfl, _, rfl, _, rfl, a, c, Fu, cells6, n6, _, rfl, dk6, by omega, by omega, SqL.of (k6 _ _ nF hFF), nF, List.cons_ne_nil _ _, (by show 3 ≤ 1000; decide), fun H7 cells7 x hx dk7 k7 => ?_⟩
              exact cstep hD nD (by omega) h1 h2 k6 hD6 hl6 hG6 dk7 (by omega) (by omega) k7 (gF x hx)
            · rintro H6 ⟨cells6, n6, acc, dk6, h1, h2, k6, hD6, hl6, hG6⟩
              refine ⟨D, acc, rfl, .inl ⟨SqL.of hD6, fun q hq => ?_⟩⟩
              obtain ⟨rvs', e1, e2, e3⟩ := stp (some (.ref Fu)) y9 H6 cells6 n6 acc q (kF.trans k6) dk6 h1 (by omega) hG6 (by rw [hl6]; omega) hq
              exact ⟨R, _, _, rfl, rfl, e1, e2, e3⟩
          · refine ⟨_, rfl, (by show 3 ≤ sizeLine; decide), fun Fu hFu => ?_⟩
            have g0 : Gi m .non := .inl rfl
            have g1 : Gi m (.int (0 + i)) := .inr ⟨_, rfl, by omega, by omega⟩
            have dkF := deck_new (o := .lst [V.non, .int (0 + i), .non]) dk5 hFu
            have nF := deck_off dk5 hFu
            have kF : Keep (Bd a c) H5 (upd H5 Fu (.lst [V.non, .int (0 + i), .non])) := keep_new hFu
            have hRF := kF _ _ nR hR5
            have hFF : upd H5 Fu (.lst [V.non, .int (0 + i), .non]) Fu = some (.lst [V.non, .int (0 + i), .non]) := upd_same
            have gF : ∀ x ∈ [V.non, V.int (0 + i), V.non], Gi m x := fun x hx => by
              rcases List.mem_cons.mp hx with hx | hx
              · rw [hx]
                exact g0
              · rcases List.mem_cons.mp hx with hx | hx
                · rw [hx]
                  exact g1
                · rw [List.mem_singleton.mp hx]
                  exact .inl rfl
            refine ⟨.ref R, rfl, .inl ⟨rfl, _, SqL.of hRF⟩, ?_⟩
            refine ⟨_, rfl, L, rfl, (lo62 L (by omega) (by omega)).1, (lo62 L (by omega) (by omega)).2, fun D hD => ?_⟩
            have nD := deck_off dkF hD
            refine lc_range (lo := 0) (n := L.toNat) (CInv a c D (upd H5 Fu (.lst [V.non, .int (0 + i), .non])) (Gi m) n5 1) (cstart dkF hD) ?_ ?_
            · rintro j H6 hj ⟨cells6, n6, acc, dk6, h1, h2, k6, hD6, hl6, hG6⟩
              refine ⟨rfl, _, rfl, _, rfl, a, c, Fu, cells6, n6, _, rfl, dk6, by omega, by omega, SqL.of (k6 _ _ nF hFF), nF, List.cons_ne_nil _ _, (by show 3 ≤ 1000; decide), fun H7 cells7 x hx dk7 k7 => ?_⟩
              exact cstep hD nD (by omega) h1 h2 k6 hD6 hl6 hG6 dk7 (by omega) (by omega) k7 (gF x hx)
            · rintro H6 ⟨cells6, n6, acc, dk6, h1, h2, k6, hD6, hl6, hG6⟩
              refine ⟨D, acc, rfl, .inl ⟨SqL.of hD6, fun q hq => ?_⟩⟩
              obtain ⟨rvs', e1, e2, e3⟩ := stp (some (.ref Fu)) y9 H6 cells6 n6 acc q (kF.trans k6) dk6 h1 (by omega) hG6 (by rw [hl6]; omega) hq
              exact ⟨R, _, _, rfl, rfl, e1, e2, e3⟩
        · -- drawn items
          refine ⟨_, rfl, L, rfl, (lo62 L (by omega) (by omega)).1, (lo62 L (by omega) (by omega)).2, fun D hD => ?_⟩
          have nD := deck_off dk5 hD
          refine lc_range (lo := 0) (n := L.toNat) (CInv a c D H5 (Gi m) n5 1) (cstart dk5 hD) ?_ ?_
          · rintro j H6 hj ⟨cells6, n6, acc, dk6, h1, h2, k6, hD6, hl6, hG6⟩
            refine ⟨rfl, _, rfl, _, rfl, a, c, cells6, n6, m, rfl, dk6, hm1, by omega, by omega, by omega, fun H7 cells7 r r0 rm dk7 k7 => ?_⟩
            exact cstep hD nD (by omega) h1 h2 k6 hD6 hl6 hG6 dk7 (by omega) (by omega) k7 (.inr ⟨r, rfl, r0, rm⟩)
          · rintro H6 ⟨cells6, n6, acc, dk6, h1, h2, k6, hD6, hl6, hG6⟩
            have hR6 := k6 _ _ nR hR5
            refine ⟨.ref R, rfl, .inl ⟨rfl, _, SqL.of hR6⟩, ?_⟩
            refine ⟨_, rfl, D, rfl, ⟨_, SqL.of hD6⟩, fun D2 hD2 => ?_⟩
            have nD2 := deck_off dk6 hD2
            refine lc_list (K := K) (a := D) (xs := acc) (CInv a c D2 H6 (Gi m) n6 1) (cstart dk6 hD2) (fun j H7 _ p => ?_) ?_ ?_
            · obtain ⟨_, _, _, _, _, _, k7, _⟩ := p
              exact SqL.of (k7 _ _ nD hD6)
            · rintro j y H7 hy ⟨cells7, n7, acc7, dk7, h3, h4, k7, hD7, hl7, hG7⟩
              have hj := (List.getElem?_eq_some_iff.mp hy).1
              refine ⟨rfl, _, rfl, _, rfl, 3, r2, rfl, rfl, a, c, cells7, n7, 3 + r2, rfl, dk7, by omega, by omega, by omega, by omega, fun H8 cells8 r r0 rm dk8 k8 => ?_⟩
              refine ⟨rfl, _, rfl, ite2 (fun _ => ?_) (fun _ => ?_)⟩
              · exact cstep hD2 nD2 (by omega) h3 h4 k7 hD7 hl7 hG7 dk8 (by omega) (by omega) k8 (.inl rfl)
              · exact ⟨y, rfl, cstep hD2 nD2 (by omega) h3 h4 k7 hD7 hl7 hG7 dk8 (by omega) (by omega) k8 (hG6 y (List.mem_of_getElem? hy))⟩
            · rintro H7 ⟨cells7, n7, acc7, dk7, h3, h4, k7, hD7, hl7, hG7⟩
              refine ⟨D2, acc7, rfl, .inl ⟨SqL.of hD7, fun q hq => ?_⟩⟩
              obtain ⟨rvs', e1, e2, e3⟩ := stp y8 (some (.ref D)) H7 cells7 n7 acc7 q (k6.trans k7) dk7 (by omega) (by omega) hG7 (by rw [hl7, hl6]; omega) hq
              exact ⟨R, _, _, rfl, rfl, e1, e2, e3⟩
    · rintro σ H5 ⟨⟨y6, y8, y9, rfl⟩, cells5, n5, rvs, rds, dk5, hn5, hn5', k5, hR5, hd5, hl5, hr5⟩
      have hml : (rds.length : Int) = m := by omega
      refine ⟨_, rfl, (by show 4 ≤ sizeLine; decide), fun O4 hO4 => ?_⟩
      have dkO := deck_new (o := .lst [.int 2, .int 2, .int 3, .int 5]) dk5 hO4
      have kO : Keep (Bd a c) H5 (upd H5 O4 (.lst [.int 2, .int 2, .int 3, .int 5])) := keep_new hO4
      refine ⟨a, c, O4, cells5, n5, _, rfl, dkO, by omega, by omega, SqL.of upd_same, deck_off dk5 hO4, List.cons_ne_nil _ _, (by show 4 ≤ 1000; decide), fun H6 cells6 x hx dk6 k6 => ?_⟩
      obtain ⟨o, rfl, ho1, ho5⟩ : ∃ o : Int, x = .int o ∧ 1 ≤ o ∧ o ≤ 5 := by
        simp only [List.mem_cons, List.not_mem_nil, or_false] at hx
        rcases hx with hx | hx | hx | hx <;> exact ⟨_, hx, by decide, by decide⟩
      have k56 := kO.trans k6
      have hR6 := k56 _ _ nR hR5
      refine ⟨_, rfl, _, rfl, R, rvs, rfl, .inl ⟨SqL.of hR6, fun pr hpr => ?_⟩⟩
      have dk7 := deck_new (o := .tup rvs) dk6 hpr
      have k67 : Keep (Bd a c) H6 (upd H6 pr (.tup rvs)) := keep_new hpr
      have hpr7 : upd H6 pr (.tup rvs) pr = some (.tup rvs) := upd_same
      refine ⟨_, rfl, m, rfl, (lo62 m (by omega) (by omega)).1, (lo62 m (by omega) (by omega)).2, fun D hD => ?_⟩
      have nD := deck_off dk7 hD
      refine lc_range (lo := 0) (n := m.toNat) (CInv a c D (upd H6 pr (.tup rvs)) Gb (n5 + 1) 1) (cstart dk7 hD) ?_ ?_
      · rintro j H8 hj ⟨cells8, n8, acc8, dk8, h1, h2, k8, hD8, hl8, hG8⟩
        refine ⟨rfl, _, rfl, _, rfl, a, c, cells8, n8, o, rfl, dk8, ho1, by omega, by omega, by omega, fun H9 cells9 r r0 rm dk9 k9 => ⟨rfl, ?_⟩⟩
        exact cstep hD nD (by omega) h1 h2 k8 hD8 hl8 hG8 dk9 (by omega) (by omega) k9 ⟨_, rfl⟩
      · rintro H8 ⟨cells8, n8, acc8, dk8, h1, h2, k8, hD8, hl8, hG8⟩
        refine ⟨D, acc8, rfl, .inl ⟨SqL.of hD8, fun pe hpe => ?_⟩⟩
        refine ⟨(by show 3 ≤ sizeLine; decide), fun p hp => ?_⟩
        obtain ⟨eds, ge1, ge2, ge3⟩ := gb_dt hG8
        have dk9 := deck_new (o := .tup acc8) dk8 hpe
        have k89 : Keep (Bd a c) H8 (upd H8 pe (.tup acc8)) := keep_new hpe
        have hpe9 : upd H8 pe (.tup acc8) pe = some (.tup acc8) := upd_same
        have dk10 := deck_new (o := .tup [.int L, .ref pr, .ref pe]) dk9 hp
        have k910 : Keep (Bd a c) (upd H8 pe (.tup acc8)) (upd (upd H8 pe (.tup acc8)) p (.tup [.int L, .ref pr, .ref pe])) := keep_new hp
        have hp10 : upd (upd H8 pe (.tup acc8)) p (.tup [.int L, .ref pr, .ref pe]) p = some (.tup [.int L, .ref pr, .ref pe]) := upd_same
        have k710 := k8.trans (k89.trans k910)
        have k510 := k56.trans (k67.trans k710)
        have npr := deck_off dk6 hpr
        have npe := deck_off dk8 hpe
        refine k _ cells8 n8 _ rds eds dk10 (by omega) (by omega) (k5.trans k510) ⟨.tup (deck_off dk9 hp) (.inl hp10) (.cons (.int L) (.cons (.tup npr (.inl (k710 _ _ npr hpr7)) ?_) (.cons (.tup npe (.inl (k910 _ _ npe hpe9)) (ge1 _ _ _)) .nil))), by omega, by omega, by omega, fun r hr2 => ?_, ge3⟩
        · exact DtAll.keep k510 _ _ (DtAll.weak (fun b hb => .inl hb) _ _ hd5)
        · rw [hml]
          exact hr5 r hr2
end
section
variable {X : Cx}
/-- []: new, and no table of modules -/
def tNilN : TE := fun _ H Q => ∀ p, H p = none → p ≠ sysModules → Q (.ref p) (upd H p (.lst []))
theorem pe_nilN {pos : Pos} : PE X (.List [] pos) tNilN := by
  refine ⟨fun pins s σ H Q I h => ?_⟩
  refine wpAny_List_spliced (thn (pa_nil.run pos pins s σ H (fun xs H1 => xs = [] ∧ H1 = H) I ⟨rfl, rfl⟩) ?_)
  rintro us s1 ⟨xs, H1, I1, r, rfl, rfl⟩
  cases r
  exact ⟨Nat.zero_le _, .ref s1.heap.objs.size, _, I1.laid (o := .lst []) (t' := s1.toks) (fun b u e => Heap.get?_push_of_some _ e) (Nat.le_refl _) ⟨Nat.zero_le _, [], 0, .nil, Heap.get?_push_size _ rfl⟩, rfl, h _ (I1.hok.fresh (Nat.le_refl _)) (Nat.ne_of_gt I1.big)⟩
/-- list(t): new, and no table of modules -/
def rListN (K : PySem.W.Frag) : List V → Hp → VK → Prop := fun xs H Q => ∃ p ys, xs = [.ref p] ∧ SqT K H p ys ∧ ∀ l, H l = none → l ≠ sysModules → Q (.ref l) (upd H l (.lst ys))
theorem call_listN : CallR X (.type "list") (rListN X.K) := by
  intro pins s σ H xs us Q I r h
  obtain ⟨p, ys, rfl, hq, q⟩ := h
  obtain ⟨u, rfl, rx⟩ := vals1 r
  cases rx
  obtain ⟨its, rv, pl, hz⟩ := I.tuple hq
  have hlen := rv.length
  obtain ⟨o, ho, hc, n, hd⟩ := id pl
  refine call_list_seq p (.inr rfl) ho hc hd (fun h' c' kp e => ?_) (by simp only [List.size_toArray]; omega)
  exact ⟨.ref s.heap.objs.size, _, I.laid (t' := s.toks) kp (Nat.le_refl _) (show ObjOk X.prog X.w _ h' _ (.lst ys) from ⟨hz, its, c', rv, e⟩), rfl, q _ (I.hok.fresh (Nat.le_refl _)) (Nat.ne_of_gt I.big)⟩
/-- t[lo:hi], some tuple of the cut: t or a new one -/
def rSlS (K : PySem.W.Frag) : V → Option Int → Option Int → Hp → VK → Prop := fun x lo hi H Q => ∃ a xs, x = .ref a ∧ Rd H a (.tup xs) ∧ ∀ q H', Same H H' → Rd H' q (.tup (cutV xs lo hi)) → (q = a ∨ H q = none) → Q (.ref q) H'
theorem sl_tupS : SlR X (rSlS X.K) := by
  intro pins s σ H x v vl vu lo hi sl Q I rx hs pl pu h
  obtain ⟨a, xs, rfl, hx, q⟩ := h
  refine sl_tupA pins s σ H _ v vl vu lo hi sl Q I rx hs pl pu ⟨a, xs, rfl, .inl hx, fun hw => ?_, fun hw p hp => ?_⟩
  · refine q a H (Same.refl H) ?_ (.inl rfl)
    have e : cutV xs lo hi = xs := by
      unfold cutV
      rw [hw.1, hw.2, List.drop_zero, Nat.sub_zero, List.take_length]
    rw [e]
    exact hx
  · exact q p _ (same_new hp) (.inl upd_same) (.inr hp)
/-- t + u, some tuple of both -/
def rCatS (K : PySem.W.Frag) : R2 := fun x y H Q => ∃ a b xs ys, x = .ref a ∧ y = .ref b ∧ Rd H a (.tup xs) ∧ Rd H b (.tup ys) ∧ xs.length + ys.length ≤ sizeLine ∧ ∀ q H', Same H H' → Rd H' q (.tup (xs ++ ys)) → (q = a ∨ q = b ∨ H q = none) → Q (.ref q) H'
theorem op_catS : OpR X (binaryOp .Add) (rCatS X.K) := by
  intro pins s σ H x y v u Q I rx ry h
  obtain ⟨a, b, xs, ys, rfl, rfl, hx, hy, hz, q⟩ := h
  refine op_catA pins s σ H _ _ v u Q I rx ry ⟨a, b, xs, ys, rfl, rfl, .inl hx, .inl hy, hz, fun e => ?_, fun _ e => ?_, fun _ _ p hp => ?_⟩
  · subst e
    exact q b H (Same.refl H) hy (.inr (.inl rfl))
  · subst e
    refine q a H (Same.refl H) ?_ (.inl rfl)
    rw [List.append_nil]
    exact hx
  · exact q p _ (same_new hp) (.inl upd_same) (.inr (.inr hp))
end
theorem cut_take (xs : List V) (j : Nat) (h : j ≤ xs.length) : cutV xs none (some (j : Int)) = xs.take j := by
  unfold cutV
  rw [HT.sIx_none, HT.sIx_nat, List.drop_zero, Nat.sub_zero, Nat.min_eq_left h]
theorem cut_drop (xs : List V) (j : Nat) (h : j ≤ xs.length) : cutV xs (some (j : Int)) none = xs.drop j := by
  unfold cutV
  rw [HT.sIx_none, HT.sIx_nat, Nat.min_eq_left h]
  exact List.take_of_length_le (by rw [List.length_drop]; omega)
theorem cut_mid (xs : List V) (j : Nat) (h : j < xs.length) : cutV xs (some (j : Int)) (some ((j + 1 : Nat) : Int)) = (xs.drop j).take 1 := by
  unfold cutV
  rw [HT.sIx_nat, HT.sIx_nat, Nat.min_eq_left (by omega), Nat.min_eq_left (by omega)]
  congr 1
  omega
/-! ### small data -/
mutual
def sm : PyData → Bool
  | .none => true
  | .bool _ => true
  | .int i => decide (i.natAbs ≤ 10 ^ 30)
  | .str x => decide ((reprText x).length ≤ 20)
  | .list xs => smAll xs
  | .tuple xs => smAll xs
  | .dict kvs => kvs.isEmpty
def smAll : List PyData → Bool
  | [] => true
  | x :: xs => sm x && smAll xs
end
theorem smAll_iff : ∀ xs : List PyData, smAll xs = true ↔ ∀ x ∈ xs, sm x = true
  | [] => by simp [smAll]
  | x :: xs => by
    rw [smAll, Bool.and_eq_true, smAll_iff xs]
    simp
theorem sm_tup (xs : List PyData) : sm (.tuple xs) = true ↔ ∀ x ∈ xs, sm x = true := by rw [sm]; exact smAll_iff xs
theorem sm_lst (xs : List PyData) : sm (.list xs) = true ↔ ∀ x ∈ xs, sm x = true := by rw [sm]; exact smAll_iff xs
theorem depthAll_le : ∀ {xs : List PyData} {n : Nat}, PyData.depthAll xs ≤ n ↔ ∀ x ∈ xs, x.depth ≤ n
  | [], n => by simp [PyData.depthAll]
  | x :: xs, n => by
    rw [PyData.depthAll, Nat.max_le, depthAll_le (xs := xs)]
    simp
theorem depth_tup (xs : List PyData) : (PyData.tuple xs).depth = PyData.depthAll xs + 1 := by rw [PyData.depth]
theorem depth_lst (xs : List PyData) : (PyData.list xs).depth = PyData.depthAll xs + 1 := by rw [PyData.depth]
mutual
theorem sm_show : ∀ d : PyData, sm d = true → d.showable = true
  | .none, _ => by simp [PyData.showable]
  | .bool _, _ => by simp [PyData.showable]
  | .int i, h => by
    rw [sm, decide_eq_true_eq] at h
    rw [PyData.showable, decide_eq_true_eq]
    have h2 : i.natAbs < 2 ^ 100 := Nat.lt_of_le_of_lt h (by decide)
    by_cases z : i.natAbs = 0
    · rw [z]
      decide
    · exact Nat.lt_trans ((Nat.log2_lt z).mpr h2) (by decide)
  | .str _, _ => by simp [PyData.showable]
  | .list xs, h => by
    rw [PyData.showable]
    exact smAll_show xs (by rw [sm] at h; exact h)
  | .tuple xs, h => by
    rw [PyData.showable]
    exact smAll_show xs (by rw [sm] at h; exact h)
  | .dict kvs, h => by
    rw [sm] at h
    rw [List.isEmpty_iff.mp h]
    simp [PyData.showable, PyData.showableKv]
theorem smAll_show : ∀ xs : List PyData, smAll xs = true → PyData.showableAll xs = true
  | [], _ => by simp [PyData.showableAll]
  | x :: xs, h => by
    rw [smAll, Bool.and_eq_true] at h
    rw [PyData.showableAll, sm_show x h.1, smAll_show xs h.2]
    rfl
end
mutual
theorem sm_len : ∀ d : PyData, sm d = true → d.shown.length + 5 ≤ 60 * nodes d
  | .none, _ => by
    rw [PyData.shown, nodes]
    decide +kernel
  | .bool b, _ => by
    rw [PyData.shown, nodes]
    cases b <;> decide +kernel
  | .int i, h => by
    rw [sm, decide_eq_true_eq] at h
    rw [PyData.shown, nodes, PySem.ofString_length]
    have := int_text_length_le10 (a := i) (k := 31) (by decide) (Nat.lt_of_le_of_lt h (by decide))
    omega
  | .str x, h => by
    rw [sm, decide_eq_true_eq] at h
    rw [PyData.shown, nodes]
    omega
  | .list xs, h => by
    rw [PyData.shown, nodes]
    have h1 := smAll_len xs (by rw [sm] at h; exact h)
    have h2 := listText_len_le (PyData.shownAll xs)
    omega
  | .tuple xs, h => by
    rw [PyData.shown, nodes]
    have h1 := smAll_len xs (by rw [sm] at h; exact h)
    have h2 := tupleText_len_le (PyData.shownAll xs)
    omega
  | .dict kvs, h => by
    rw [sm] at h
    rw [List.isEmpty_iff.mp h, PyData.shown, PyData.shownKv, nodes]
    have h2 := dictText_len_le []
    simp only [List.map_nil, List.sum_nil, List.length_nil] at h2
    omega
theorem smAll_len : ∀ xs : List PyData, smAll xs = true → ((PyData.shownAll xs).map (·.length)).sum + 2 * (PyData.shownAll xs).length ≤ 60 * nodesAll xs
  | [], _ => by
    rw [PyData.shownAll, nodesAll]
    decide
  | x :: xs, h => by
    rw [smAll, Bool.and_eq_true] at h
    have h1 := sm_len x h.1
    have h2 := smAll_len xs h.2
    rw [PyData.shownAll, nodesAll, List.map_cons, List.sum_cons, List.length_cons]
    omega
end
theorem sm_fits {d : PyData} (h : sm d = true) (hn : nodes d ≤ 100000) : d.shown.length ≤ sizeLine := by
  have := sm_len d h
  exact Nat.le_trans (show d.shown.length ≤ 6000000 by omega) (by decide)
/-- all of B is tracked -/
def TB (B : Addr → Prop) (H : Hp) : Prop := ∀ b, B b → H b ≠ none
theorem tb_off {B : Addr → Prop} {H : Hp} {p : Addr} (tb : TB B H) (n : H p = none) : ¬ B p := fun z => tb p z n
theorem tb_upd {B : Addr → Prop} {H : Hp} {p : Addr} {o : HO} (tb : TB B H) : TB B (upd H p o) := fun b z e => by
  by_cases h : b = p
  · rw [h, upd_same] at e
    cases e
  · rw [upd_ne h] at e
    exact tb b z e
theorem tb_same {B : Addr → Prop} {H H' : Hp} (s : Same H H') (tb : TB B H) : TB B H' := fun b z e => by
  cases q : H b with
  | none => exact tb b z q
  | some o =>
    rw [s b o q] at e
    cases e
theorem tb_keep {B : Addr → Prop} {H H' : Hp} {a c : Addr} {cells : List Int} {n : Int} (tb : TB B H) (dk : DeckAt a c cells n H') (k : Keep (Bd a c) H H') : TB B H' := fun b z e => by
  by_cases h : Bd a c b
  · exact deck_off dk e h
  · cases q : H b with
    | none => exact tb b z q
    | some o =>
      rw [k b o h q] at e
      cases e
theorem new_tup {B : Addr → Prop} {p : Addr} {K : PySem.W.Frag} {H : Hp} {xs : List V} {ds : List PyData} (tb : TB B H) (h : H p = none) (ha : DtAll B K (upd H p (.tup xs)) xs ds) : Dt B K (upd H p (.tup xs)) (.ref p) (.tuple ds) :=
  .tup (tb_off tb h) (.inl upd_same) ha
theorem same_rd {H H' : Hp} {a : Addr} {o : HO} (s : Same H H') (h : Rd H a o) : Rd H' a o := Keep.rd (B := fun _ => False) (Keep.same s) (fun z => z) h
theorem deck_same {a c : Addr} {cells : List Int} {n : Int} {H H' : Hp} (s : Same H H') (h : DeckAt a c cells n H) : DeckAt a c cells n H' := ⟨h.1, s _ _ h.2.1, s _ _ h.2.2.1, h.2.2.2.1, h.2.2.2.2⟩
theorem sz_of {n : Nat} (h : n ≤ 100000) : n ≤ sizeLine := Nat.le_trans h (by decide)
theorem nb_of {B : Addr → Prop} {p q : Addr} {H : Hp} (tb : TB B H) (np : ¬ B p) (h : q = p ∨ H q = none) : ¬ B q := by
  rcases h with h | h
  · rw [h]
    exact np
  · exact tb_off tb h
theorem nb_of2 {B : Addr → Prop} {p r q : Addr} {H : Hp} (tb : TB B H) (np : ¬ B p) (nr : ¬ B r) (h : q = p ∨ q = r ∨ H q = none) : ¬ B q := by
  rcases h with h | h | h
  · rw [h]
    exact np
  · rw [h]
    exact nr
  · exact tb_off tb h
theorem same_seqL {K : PySem.W.Frag} {H H' : Hp} {a : Addr} {xs : List V} (s : Same H H') (h : SqL K H a xs) : SqL K H' a xs := L2.Same.seq s h
theorem same_all {B : Addr → Prop} {K : PySem.W.Frag} {H H' : Hp} {vs : List V} {ds : List PyData} (s : Same H H') (h : DtAll B K H vs ds) : DtAll B K H' vs ds := DtAll.keep (Keep.same s) _ _ h
section
variable {X : Cx}
/-- repr of data without dicts -/
def rReprP (K : PySem.W.Frag) : List V → Hp → VK → Prop := fun xs H Q => ∃ (a : Addr) (ds : List PyData), xs = [.ref a] ∧ Dp K H (.ref a) (.list ds) ∧ (PyData.list ds).showable = true ∧ (PyData.list ds).hasDict = false ∧ (PyData.list ds).depth ≤ 60 ∧ (PyData.list ds).shown.length ≤ sizeLine ∧ Q (.str (PyData.list ds).shown) H
theorem call_reprP (hG : X.A.guards = some []) (hu : X.A.units + 64 < cLine) : CallR X (.builtin "repr") (rReprP X.K) := by
  intro pins s σ H xs us Q I r h
  obtain ⟨a, ds, rfl, hd, hs, hn, hdp, hz, q⟩ := h
  obtain ⟨u, rfl, rx⟩ := vals1 r
  obtain ⟨as, rd⟩ := Dp.reads I _ _ u hd rx
  cases rx
  exact repr_of_reads' rd hs (PyData.noDict_hsm hn) hG (by omega) (fun _ _ e => e) (fun h' u tk hk => ⟨.str _, H, I.kept hk, ⟨_, rfl⟩, q⟩) hz
/-! ### t * 1, t[::-1] of three -/
theorem mul_one (l : Addr) (items : Array Value) (n : Nat) (dd : Option Addr) (sl : Array (Option Value)) (u : Tok) :
    Meets (Builtin.«tuple.__mul__» ⟨[.ref l, .int 1 u], []⟩) (fun _ R s => s.heap.get? l = some { cls := .type "tuple", dict := dd, data := .seq items n, slots := sl } ∧ R (.ok (.ret (Value.ref l))) s) :=
  .of_wp fun prog w A R s h => by
    obtain ⟨hp, g, d, tk, os⟩ := s
    obtain ⟨hl, h⟩ := h
    have f1 := AutoSeq1.idx_int
    wp_walk using wpAny_loadPart' hl
    exact ⟨_, rfl, h⟩
def rRep1 (K : PySem.W.Frag) : R2 := fun x y H Q => ∃ l xs, x = .ref l ∧ y = .int 1 ∧ SqT K H l xs ∧ Q (.ref l) H
theorem op_rep1 : OpR X (binaryOp .Mult) (rRep1 X.K) := by
  intro pins s σ H x y v u Q I rx ry h
  obtain ⟨l, xs, rfl, rfl, hT, q⟩ := h
  cases rx
  obtain ⟨t, rfl⟩ := ry
  obtain ⟨its, r, ⟨⟨cls, dd, data, sl⟩, ho, hc, n, hd⟩, _⟩ := I.tuple hT
  cases hc
  cases hd
  exact wpAny_binaryOp_repeat_ref (T := "tuple") (U := "int") (by decide) ⟨_, ho, rfl⟩ (fun s' => typeIs_int s' 1 t) noFill_tuple_mul F.fills_int_mul F.slot_int_rmul repeat_tuple F.slot_int_index.lookup
    (call_meets F.slot_int_rmul (typeIs_int s 1 t) F.entry_int_rmul (F.args_int_rmul_2 _ _) (int_rmul_tuple 1 t l its.toArray n dd sl)
      ⟨ho, rfl, ⟨_, ho, rfl⟩, call_meets F.slot_tuple_mul ⟨_, ho, rfl⟩ F.entry_tuple_mul (F.args_tuple_mul_2 _ _) (mul_one l its.toArray n dd sl t) ⟨ho, .ref l, H, I, rfl, q⟩⟩)
/-- t * k for a small k from 1 on -/
def rRepS (K : PySem.W.Frag) : R2 := fun x y H Q => ∃ l k xs, x = .ref l ∧ y = .int k ∧ Rd H l (.tup xs) ∧ xs ≠ [] ∧ 1 ≤ k ∧ k ≤ 1000 ∧ xs.length ≤ 1000 ∧ ∀ q H', Same H H' → Rd H' q (.tup (List.replicate k.toNat xs).flatten) → (q = l ∨ H q = none) → Q (.ref q) H'
theorem op_repS : OpR X (binaryOp .Mult) (rRepS X.K) := by
  intro pins s σ H x y v u Q I rx ry h
  obtain ⟨l, k, xs, rfl, rfl, hT, hne, k1, k2, hz, q⟩ := h
  by_cases e : k = 1
  · subst e
    refine op_rep1 pins s σ H _ _ v u Q I rx ry ⟨l, xs, rfl, rfl, .inl hT, q l H (Same.refl H) ?_ (.inl rfl)⟩
    rw [show (List.replicate (1 : Int).toNat xs).flatten = xs by simp]
    exact hT
  · exact op_repT pins s σ H _ _ v u Q I rx ry ⟨l, k, xs, rfl, rfl, .inl hT, hne, by omega, k2, hz, fun p hp => q p _ (same_new hp) (.inl upd_same) (.inr hp)⟩
end
/-! ### rows, their edges, potentials -/
abbrev Rows := List (List (Option Nat))
/-- from u by a letter to v, worth g -/
def Edge (rs : Rows) (f : List Int) (u v : Nat) (g : Int) : Prop := ∃ (row : List (Option Nat)) (l : Nat), rs[u]? = some row ∧ row[l]? = some (some v) ∧ f[l]? = some g
inductive Reach (rs : Rows) : Nat → Prop
  | z : Reach rs 0
  | s {u v l : Nat} {row : List (Option Nat)} : Reach rs u → rs[u]? = some row → row[l]? = some (some v) → Reach rs v
abbrev Ed := Nat × Nat × Int
def PotE (E : List Ed) (p : Nat → Int) : Prop := 0 ≤ p 0 ∧ ∀ e ∈ E, p e.1 + e.2.2 ≤ p e.2.1
structure RS where
  h : Nat → Option Int
  par : Nat → Option Nat
  R : Nat → Nat
  T : Nat → Nat
  now : Nat
def raises (e : Ed) (s : RS) : Bool := match s.h e.1 with
  | none => false
  | some a => match s.h e.2.1 with
    | none => true
    | some b => decide (b < a + e.2.2)
def relax (i : Nat) (e : Ed) (s : RS) : RS := if raises e s then
    { h := fun x => if x = e.2.1 then some ((s.h e.1).getD 0 + e.2.2) else s.h x
      par := fun x => if x = e.2.1 then some e.1 else s.par x
      R := fun x => if x = e.2.1 then i else s.R x
      T := fun x => if x = e.2.1 then s.now + 1 else s.T x
      now := s.now + 1 } else s
def settled (e : Ed) (s : RS) : Prop := ∀ a, s.h e.1 = some a → ∃ b, s.h e.2.1 = some b ∧ a + e.2.2 ≤ b
structure RInv (E : List Ed) (i : Nat) (E1 E2 : List Ed) (last : Option Nat) (s : RS) : Prop where
  one : 1 ≤ i
  zero : ∃ a, s.h 0 = some a ∧ 0 ≤ a
  rle : ∀ v, s.R v ≤ i
  par : ∀ v, 1 ≤ s.R v → ∃ u g a b, s.par v = some u ∧ (u, v, g) ∈ E ∧ s.R v ≤ s.R u + 1 ∧ s.h u = some a ∧ s.h v = some b ∧ b ≤ a + g ∧ (s.T v ≤ s.T u → b < a + g)
  par0 : ∀ v, s.R v = 0 → s.par v = none
  done : ∀ e ∈ E1, s.R e.1 < i → settled e s
  todo : ∀ e ∈ E2, s.R e.1 + 1 < i → settled e s
  tle : ∀ v, s.T v ≤ s.now
  low : ∀ p, PotE E p → ∀ v a, s.h v = some a → a ≤ p v
  bnd : ∀ v a, s.h v = some a → -(100 * (s.now : Int)) ≤ a ∧ a ≤ 100 * (s.now : Int)
  dom : ∀ v a, s.h v = some a → v = 0 ∨ ∃ e ∈ E, e.2.1 = v
  lastN : last = none → ∀ e ∈ E1, settled e s
  lastS : ∀ v, last = some v → s.R v = i
  nowle : s.now ≤ (i - 1) * E.length + E1.length
def rs0 : RS := { h := fun x => if x = 0 then some 0 else none, par := fun _ => none, R := fun _ => 0, T := fun _ => 0, now := 0 }
theorem rinv0 {E : List Ed} : RInv E 1 [] E none rs0 where
  one := Nat.le_refl _
  zero := ⟨0, rfl, Int.le_refl _⟩
  rle := fun _ => Nat.zero_le _
  par := fun v h => absurd h (by show ¬ 1 ≤ 0; omega)
  par0 := fun _ _ => rfl
  done := fun e h => absurd h List.not_mem_nil
  todo := fun e _ h => by
    have : rs0.R e.1 + 1 < 1 := h
    omega
  tle := fun _ => Nat.le_refl _
  low := fun p hp v a h => by
    have h : (if v = 0 then some (0 : Int) else none) = some a := h
    by_cases e : v = 0
    · rw [if_pos e] at h
      cases h
      rw [e]
      exact hp.1
    · rw [if_neg e] at h
      cases h
  bnd := fun v a h => by
    have h : (if v = 0 then some (0 : Int) else none) = some a := h
    by_cases e : v = 0
    · rw [if_pos e] at h
      cases h
      exact ⟨by show -(100 * ((0 : Nat) : Int)) ≤ 0; omega, by show 0 ≤ 100 * ((0 : Nat) : Int); omega⟩
    · rw [if_neg e] at h
      cases h
  dom := fun v a h => by
    have h : (if v = 0 then some (0 : Int) else none) = some a := h
    by_cases e : v = 0
    · exact .inl e
    · rw [if_neg e] at h
      cases h
  lastN := fun _ e h => absurd h List.not_mem_nil
  lastS := fun v h => by cases h
  nowle := Nat.zero_le _
theorem raises_iff {e : Ed} {s : RS} : raises e s = true ↔ ∃ a, s.h e.1 = some a ∧ ∀ b, s.h e.2.1 = some b → b < a + e.2.2 := by
  unfold raises
  cases h1 : s.h e.1 with
  | none => simp
  | some a =>
    cases h2 : s.h e.2.1 with
    | none => simp
    | some b => simp
theorem not_raises {e : Ed} {s : RS} (h : ¬ raises e s = true) : settled e s := by
  intro a ha
  unfold raises at h
  rw [ha] at h
  cases h2 : s.h e.2.1 with
  | none =>
    rw [h2] at h
    exact absurd rfl h
  | some b =>
    rw [h2] at h
    have h : ¬ decide (b < a + e.2.2) = true := h
    rw [decide_eq_true_eq] at h
    exact ⟨b, rfl, by omega⟩
theorem rinv_step {E : List Ed} {i : Nat} {e : Ed} {E1 E2 : List Ed} {last : Option Nat} {s : RS} (he : e ∈ E) (hg : -100 ≤ e.2.2 ∧ e.2.2 ≤ 100) (I : RInv E i E1 (e :: E2) last s) :
    RInv E i (E1 ++ [e]) E2 (if raises e s then some e.2.1 else last) (relax i e s) := by
  by_cases hr : raises e s = true
  · rw [if_pos hr]
    unfold relax
    rw [if_pos hr]
    obtain ⟨u, v, g⟩ := e
    obtain ⟨a, ha, hb⟩ := raises_iff.mp hr
    simp only at ha hb hg
    have hRu : i ≤ s.R u + 1 := by
      refine Nat.le_of_not_lt fun z => ?_
      obtain ⟨b, h1, h2⟩ := I.todo _ List.mem_cons_self z a ha
      have := hb b h1
      simp only at h2
      omega
    have hup : ∀ x b, s.h x = some b → ∃ b', (if x = v then some ((s.h u).getD 0 + g) else s.h x) = some b' ∧ b ≤ b' := by
      intro x b hx
      by_cases e : x = v
      · rw [if_pos e, ha]
        refine ⟨a + g, rfl, ?_⟩
        rw [e] at hx
        have := hb b hx
        omega
      · rw [if_neg e]
        exact ⟨b, hx, Int.le_refl _⟩
    have hset : ∀ e' : Ed, e'.1 ≠ v → settled e' s → settled e' { h := fun x => if x = v then some ((s.h u).getD 0 + g) else s.h x, par := fun x => if x = v then some u else s.par x, R := fun x => if x = v then i else s.R x, T := fun x => if x = v then s.now + 1 else s.T x, now := s.now + 1 } := by
      intro e' hne hs a' ha'
      simp only at ha'
      rw [if_neg hne] at ha'
      obtain ⟨b, h1, h2⟩ := hs a' ha'
      obtain ⟨b', h3, h4⟩ := hup _ b h1
      exact ⟨b', h3, by omega⟩
    have hself : u ≠ v → settled (u, v, g) { h := fun x => if x = v then some ((s.h u).getD 0 + g) else s.h x, par := fun x => if x = v then some u else s.par x, R := fun x => if x = v then i else s.R x, T := fun x => if x = v then s.now + 1 else s.T x, now := s.now + 1 } := by
      intro hne a' ha'
      simp only at ha'
      rw [if_neg hne, ha] at ha'
      cases ha'
      refine ⟨a + g, ?_, Int.le_refl _⟩
      show (if v = v then some ((s.h u).getD 0 + g) else s.h v) = some (a + g)
      rw [if_pos rfl, ha]
      rfl
    refine ⟨I.one, ?_, fun x => ?_, fun x hx => ?_, fun x hx => ?_, fun e' h' hR => ?_, fun e' h' hR => ?_, fun x => ?_, fun p hp x b hx => ?_, fun x b hx => ?_, fun x b hx => ?_, fun z => ?_, fun x hx => ?_, ?_⟩
    · obtain ⟨b, h1, h2⟩ := I.zero
      obtain ⟨b', h3, h4⟩ := hup 0 b h1
      exact ⟨b', h3, by omega⟩
    · show (if x = v then i else s.R x) ≤ i
      by_cases e : x = v
      · rw [if_pos e]
        exact Nat.le_refl _
      · rw [if_neg e]
        exact I.rle x
    · by_cases e : x = v
      · subst e
        refine ⟨u, g, if u = x then a + g else a, a + g, if_pos rfl, he, ?_, ?_, ?_, ?_, ?_⟩
        · show (if x = x then i else s.R x) ≤ (if u = x then i else s.R u) + 1
          rw [if_pos rfl]
          by_cases e2 : u = x
          · rw [if_pos e2]
            omega
          · rw [if_neg e2]
            exact hRu
        · show (if u = x then some ((s.h u).getD 0 + g) else s.h u) = some (if u = x then a + g else a)
          by_cases e2 : u = x
          · rw [if_pos e2, if_pos e2, ha]
            rfl
          · rw [if_neg e2, if_neg e2, ha]
        · show (if x = x then some ((s.h u).getD 0 + g) else s.h x) = some (a + g)
          rw [if_pos rfl, ha]
          rfl
        · by_cases e2 : u = x
          · rw [if_pos e2]
            have := hb a (e2 ▸ ha)
            omega
          · rw [if_neg e2]
            omega
        · intro ht
          by_cases e2 : u = x
          · rw [if_pos e2]
            have := hb a (e2 ▸ ha)
            omega
          · have ht : (if x = x then s.now + 1 else s.T x) ≤ (if u = x then s.now + 1 else s.T u) := ht
            rw [if_pos rfl, if_neg e2] at ht
            have := I.tle u
            omega
      · have hx : 1 ≤ (if x = v then i else s.R x) := hx
        rw [if_neg e] at hx
        obtain ⟨u', g', a', b', p1, p2, p3, p4, p5, p6, p7⟩ := I.par x hx
        by_cases e2 : u' = v
        · have h9 := hb a' (e2 ▸ p4)
          refine ⟨u', g', a + g, b', ?_, p2, ?_, ?_, ?_, ?_, fun _ => ?_⟩
          · show (if x = v then some u else s.par x) = some u'
            rw [if_neg e, p1]
          · show (if x = v then i else s.R x) ≤ (if u' = v then i else s.R u') + 1
            rw [if_neg e, if_pos e2]
            have := I.rle x
            omega
          · show (if u' = v then some ((s.h u).getD 0 + g) else s.h u') = some (a + g)
            rw [if_pos e2, ha]
            rfl
          · show (if x = v then some ((s.h u).getD 0 + g) else s.h x) = some b'
            rw [if_neg e, p5]
          · omega
          · omega
        · refine ⟨u', g', a', b', ?_, p2, ?_, ?_, ?_, p6, fun ht => p7 ?_⟩
          · show (if x = v then some u else s.par x) = some u'
            rw [if_neg e, p1]
          · show (if x = v then i else s.R x) ≤ (if u' = v then i else s.R u') + 1
            rw [if_neg e, if_neg e2]
            exact p3
          · show (if u' = v then some ((s.h u).getD 0 + g) else s.h u') = some a'
            rw [if_neg e2, p4]
          · show (if x = v then some ((s.h u).getD 0 + g) else s.h x) = some b'
            rw [if_neg e, p5]
          · have ht : (if x = v then s.now + 1 else s.T x) ≤ (if u' = v then s.now + 1 else s.T u') := ht
            rw [if_neg e, if_neg e2] at ht
            exact ht
    · have hx : (if x = v then i else s.R x) = 0 := hx
      show (if x = v then some u else s.par x) = none
      by_cases e : x = v
      · rw [if_pos e] at hx
        have h1 := I.one
        omega
      · rw [if_neg e] at hx ⊢
        exact I.par0 x hx
    · have hR : (if e'.1 = v then i else s.R e'.1) < i := hR
      by_cases e : e'.1 = v
      · rw [if_pos e] at hR
        omega
      · rw [if_neg e] at hR
        rcases List.mem_append.mp h' with h' | h'
        · exact hset e' e (I.done e' h' hR)
        · rw [List.mem_singleton.mp h']
          rw [List.mem_singleton.mp h'] at e
          exact hself e
    · have hR : (if e'.1 = v then i else s.R e'.1) + 1 < i := hR
      by_cases e : e'.1 = v
      · rw [if_pos e] at hR
        omega
      · rw [if_neg e] at hR
        exact hset e' e (I.todo e' (List.mem_cons_of_mem _ h') hR)
    · show (if x = v then s.now + 1 else s.T x) ≤ s.now + 1
      by_cases e : x = v
      · rw [if_pos e]
        exact Nat.le_refl _
      · rw [if_neg e]
        exact Nat.le_succ_of_le (I.tle x)
    · have hx : (if x = v then some ((s.h u).getD 0 + g) else s.h x) = some b := hx
      by_cases e : x = v
      · rw [if_pos e, ha] at hx
        cases hx
        have h1 := I.low p hp u a ha
        have h2 := hp.2 _ he
        simp only at h2
        rw [e]
        show a + g ≤ p v
        omega
      · rw [if_neg e] at hx
        exact I.low p hp x b hx
    · have hx : (if x = v then some ((s.h u).getD 0 + g) else s.h x) = some b := hx
      show -(100 * ((s.now + 1 : Nat) : Int)) ≤ b ∧ b ≤ 100 * ((s.now + 1 : Nat) : Int)
      by_cases e : x = v
      · rw [if_pos e, ha] at hx
        cases hx
        have h1 := I.bnd u a ha
        show -(100 * ((s.now + 1 : Nat) : Int)) ≤ a + g ∧ a + g ≤ 100 * ((s.now + 1 : Nat) : Int)
        omega
      · rw [if_neg e] at hx
        have h1 := I.bnd x b hx
        omega
    · have hx : (if x = v then some ((s.h u).getD 0 + g) else s.h x) = some b := hx
      by_cases e : x = v
      · exact .inr ⟨_, he, e.symm⟩
      · rw [if_neg e] at hx
        exact I.dom x b hx
    · cases z
    · cases hx
      show (if v = v then i else s.R v) = i
      rw [if_pos rfl]
    · have := I.nowle
      rw [List.length_append, List.length_singleton]
      show s.now + 1 ≤ _
      omega
  · rw [if_neg hr]
    unfold relax
    rw [if_neg hr]
    have hs := not_raises hr
    refine ⟨I.one, I.zero, I.rle, I.par, I.par0, fun e' h' hR => ?_, fun e' h' hR => I.todo e' (List.mem_cons_of_mem _ h') hR, I.tle, I.low, I.bnd, I.dom, fun z e' h' => ?_, I.lastS, ?_⟩
    · rcases List.mem_append.mp h' with h' | h'
      · exact I.done e' h' hR
      · rw [List.mem_singleton.mp h']
        exact hs
    · rcases List.mem_append.mp h' with h' | h'
      · exact I.lastN z e' h'
      · rw [List.mem_singleton.mp h']
        exact hs
    · have := I.nowle
      rw [List.length_append, List.length_singleton]
      omega
theorem rinv_next {E : List Ed} {i : Nat} {last : Option Nat} {s : RS} (I : RInv E i E [] last s) : RInv E (i + 1) [] E none s where
  one := Nat.le_succ_of_le I.one
  zero := I.zero
  rle := fun v => Nat.le_succ_of_le (I.rle v)
  par := I.par
  par0 := I.par0
  done := fun e h => absurd h List.not_mem_nil
  todo := fun e h hR => I.done e h (by omega)
  tle := I.tle
  low := I.low
  bnd := I.bnd
  dom := I.dom
  lastN := fun _ e h => absurd h List.not_mem_nil
  lastS := fun v h => by cases h
  nowle := by
    have h1 := I.nowle
    have h2 := I.one
    rw [List.length_nil, Nat.add_sub_cancel]
    have h3 : i * E.length = (i - 1) * E.length + E.length := by
      rw [← Nat.succ_mul]
      congr 1
      omega
    omega
/-- more turns than a list has items: one comes twice -/
theorem pigeon (L : List Nat) : ∀ (c : Nat → Nat), (∀ k, k ≤ L.length → c k ∈ L) → ∃ a b, a < b ∧ b ≤ L.length ∧ c a = c b := by
  suffices H : ∀ (n : Nat) (L : List Nat) (c : Nat → Nat), L.length ≤ n → (∀ k, k ≤ n → c k ∈ L) → ∃ a b, a < b ∧ b ≤ n ∧ c a = c b from fun c h => H L.length L c (Nat.le_refl _) h
  intro n
  induction n with
  | zero =>
    intro L c hl h
    have := h 0 (Nat.le_refl _)
    cases L with
    | nil => exact absurd this List.not_mem_nil
    | cons x xs => simp at hl
  | succ n ih =>
    intro L c hl h
    by_cases e : ∃ k, k ≤ n ∧ c k = c (n + 1)
    · obtain ⟨k, h1, h2⟩ := e
      exact ⟨k, n + 1, by omega, Nat.le_refl _, h2⟩
    · have hm := h (n + 1) (Nat.le_refl _)
      obtain ⟨a, b, h1, h2, h3⟩ := ih (L.erase (c (n + 1))) c (by rw [List.length_erase_of_mem hm]; omega) (fun k hk => by
        have h4 : c k ≠ c (n + 1) := fun z => e ⟨k, hk, z⟩
        exact (List.mem_erase_of_ne h4).mpr (h k (by omega)))
      exact ⟨a, b, h1, by omega, h3⟩
def chainP (s : RS) (v : Nat) : Nat → Nat
  | 0 => v
  | k + 1 => (s.par (chainP s v k)).getD 0
section
variable {E : List Ed} {i : Nat} {E1 E2 : List Ed} {last : Option Nat} {s : RS} {ord : List Nat} {v : Nat}
theorem chain_R (I : RInv E i E1 E2 last s) (hv : ord.length ≤ s.R v) : ∀ k, k < ord.length → ord.length ≤ s.R (chainP s v k) + k ∧ 1 ≤ s.R (chainP s v k) := by
  intro k
  induction k with
  | zero => intro h; exact ⟨hv, by show 1 ≤ s.R v; omega⟩
  | succ k ih =>
    intro h
    obtain ⟨h1, h2⟩ := ih (by omega)
    obtain ⟨u, g, a, b, p1, p2, p3, _⟩ := I.par _ h2
    have e : chainP s v (k + 1) = u := by
      show (s.par (chainP s v k)).getD 0 = u
      rw [p1]
      rfl
    rw [e]
    omega
theorem chain_mem (I : RInv E i E1 E2 last s) (hE : ∀ e ∈ E, e.1 ∈ ord ∧ e.2.1 ∈ ord) (hv : ord.length ≤ s.R v) (hn : 1 ≤ ord.length) : ∀ k, k ≤ ord.length → chainP s v k ∈ ord := by
  intro k hk
  cases k with
  | zero =>
    obtain ⟨u, g, a, b, p1, p2, _⟩ := I.par v (by omega)
    exact (hE _ p2).2
  | succ k =>
    obtain ⟨h1, h2⟩ := chain_R I hv k (by omega)
    obtain ⟨u, g, a, b, p1, p2, p3, _⟩ := I.par _ h2
    have e : chainP s v (k + 1) = u := by
      show (s.par (chainP s v k)).getD 0 = u
      rw [p1]
      rfl
    rw [e]
    exact (hE _ p2).1
theorem chain_per {a b : Nat} (h : chainP s v a = chainP s v b) : ∀ j, chainP s v (a + j) = chainP s v (b + j) := by
  intro j
  induction j with
  | zero => exact h
  | succ j ih =>
    show (s.par (chainP s v (a + j))).getD 0 = (s.par (chainP s v (b + j))).getD 0
    rw [ih]
/-- each state that is come to against the edges was raised -/
theorem chain_all (I : RInv E i E1 E2 last s) (hE : ∀ e ∈ E, e.1 ∈ ord ∧ e.2.1 ∈ ord) (hv : ord.length ≤ s.R v) (hn : 1 ≤ ord.length) : ∀ k, 1 ≤ s.R (chainP s v k) := by
  obtain ⟨a, b, h1, h2, h3⟩ := pigeon ord (chainP s v) (chain_mem I hE hv hn)
  intro k
  induction k using Nat.strongRecOn with
  | ind k ih =>
    by_cases hk : k < ord.length
    · exact (chain_R I hv k hk).2
    · have e := chain_per h3 (k - b)
      rw [show b + (k - b) = k by omega] at e
      rw [← e]
      exact ih _ (by omega)
/-- raised in a late round: no potential -/
theorem no_pot (I : RInv E i E1 E2 last s) (hE : ∀ e ∈ E, e.1 ∈ ord ∧ e.2.1 ∈ ord) (hv : ord.length ≤ s.R v) (hn : 1 ≤ ord.length) (p : Nat → Int) (hp : PotE E p) : False := by
  obtain ⟨a, b, h1, h2, h3⟩ := pigeon ord (chainP s v) (chain_mem I hE hv hn)
  have key : ∀ j, (s.h (chainP s v a)).getD 0 - p (chainP s v a) ≤ (s.h (chainP s v (a + j))).getD 0 - p (chainP s v (a + j)) ∧
      ((s.h (chainP s v a)).getD 0 - p (chainP s v a) < (s.h (chainP s v (a + j))).getD 0 - p (chainP s v (a + j)) ∨ s.T (chainP s v (a + j)) + j ≤ s.T (chainP s v a)) := by
    intro j
    induction j with
    | zero => exact ⟨Int.le_refl _, .inr (Nat.le_refl _)⟩
    | succ j ih =>
      obtain ⟨u, g, x, y, p1, p2, p3, p4, p5, p6, p7⟩ := I.par _ (chain_all I hE hv hn (a + j))
      have e : chainP s v (a + (j + 1)) = u := by
        show (s.par (chainP s v (a + j))).getD 0 = u
        rw [p1]
        rfl
      have hpe := hp.2 _ p2
      simp only at hpe
      rw [e, p4]
      rw [p5] at ih
      simp only [Option.getD_some] at ih ⊢
      by_cases ht : s.T (chainP s v (a + j)) ≤ s.T u
      · have := p7 ht
        exact ⟨by omega, .inl (by omega)⟩
      · refine ⟨by omega, ?_⟩
        rcases ih.2 with h | h
        · exact .inl (by omega)
        · exact .inr (by omega)
  have hk := key (b - a)
  rw [show a + (b - a) = b by omega, ← h3] at hk
  omega
end
/-! ### the edges of rows, heights -/
def rowEd (f : List Int) (u : Nat) : Nat → List (Option Nat) → List Ed
  | _, [] => []
  | l, none :: r => rowEd f u (l + 1) r
  | l, some v :: r => (u, v, f.getD l 0) :: rowEd f u (l + 1) r
def edgesOf (rs : Rows) (f : List Int) (ord : List Nat) : List Ed := ord.flatMap fun u => rowEd f u 0 (rs.getD u [])
theorem mem_rowEd {f : List Int} {u : Nat} : ∀ {r : List (Option Nat)} {l : Nat} {e : Ed}, e ∈ rowEd f u l r ↔ e.1 = u ∧ ∃ k, r[k]? = some (some e.2.1) ∧ e.2.2 = f.getD (l + k) 0
  | [], l, e => by simp [rowEd]
  | none :: r, l, e => by
    rw [rowEd, mem_rowEd (r := r)]
    refine and_congr_right fun _ => ⟨fun ⟨k, h1, h2⟩ => ⟨k + 1, by simpa using h1, by rw [h2]; congr 1; omega⟩, fun ⟨k, h1, h2⟩ => ?_⟩
    cases k with
    | zero => simp at h1
    | succ k => exact ⟨k, by simpa using h1, by rw [h2]; congr 1; omega⟩
  | some v :: r, l, e => by
    rw [rowEd, List.mem_cons, mem_rowEd (r := r)]
    constructor
    · rintro (rfl | ⟨h, k, h1, h2⟩)
      · exact ⟨rfl, 0, rfl, rfl⟩
      · exact ⟨h, k + 1, by simpa using h1, by rw [h2]; congr 1; omega⟩
    · rintro ⟨h, k, h1, h2⟩
      cases k with
      | zero =>
        left
        simp at h1
        obtain ⟨a, b, c⟩ := e
        simp only at h h1 h2
        rw [h, ← h1, h2]
        rfl
      | succ k => exact .inr ⟨h, k, by simpa using h1, by rw [h2]; congr 1; omega⟩
/-- the form has something for each letter of each row -/
def Fits (rs : Rows) (f : List Int) : Prop := ∀ row ∈ rs, row.length = f.length
theorem mem_edges {rs : Rows} {f : List Int} {ord : List Nat} (hf : Fits rs f) {e : Ed} : e ∈ edgesOf rs f ord ↔ e.1 ∈ ord ∧ Edge rs f e.1 e.2.1 e.2.2 := by
  unfold edgesOf
  rw [List.mem_flatMap]
  constructor
  · rintro ⟨u, hu, he⟩
    obtain ⟨rfl, k, h1, h2⟩ := mem_rowEd.mp he
    rw [Nat.zero_add] at h2
    refine ⟨hu, ?_⟩
    cases hr : rs[e.1]? with
    | none =>
      rw [List.getD_eq_getElem?_getD, hr] at h1
      simp at h1
    | some row =>
      rw [List.getD_eq_getElem?_getD, hr] at h1
      have h1 : row[k]? = some (some e.2.1) := h1
      refine ⟨row, k, hr, h1, ?_⟩
      have hk := (List.getElem?_eq_some_iff.mp h1).1
      rw [hf row (List.mem_of_getElem? hr)] at hk
      rw [h2, List.getD_eq_getElem?_getD, List.getElem?_eq_getElem hk]
      rfl
  · rintro ⟨hu, row, k, h1, h2, h3⟩
    refine ⟨e.1, hu, mem_rowEd.mpr ⟨rfl, k, ?_, ?_⟩⟩
    · rw [List.getD_eq_getElem?_getD, h1]
      exact h2
    · rw [Nat.zero_add, List.getD_eq_getElem?_getD, h3]
      rfl
def Valid (rs : Rows) (es : List Bool) (f : List Int) (bd : Int) (hs : List (Option Int)) : Prop :=
  hs.length = rs.length ∧ (∃ a, hs[0]? = some (some a) ∧ 0 ≤ a) ∧ ∀ (u : Nat) (a : Int), hs[u]? = some (some a) → (es[u]? = some true → a ≤ bd) ∧ ∀ v g, Edge rs f u v g → ∃ b, hs[v]? = some (some b) ∧ a + g ≤ b
/-- the states that words come to, in some order -/
structure IsOrd (rs : Rows) (ord : List Nat) : Prop where
  mem : ∀ u, u ∈ ord ↔ Reach rs u
  lt : ∀ u ∈ ord, u < rs.length
  len : ord.length ≤ rs.length
  nd : ord.Nodup
theorem IsOrd.ne {rs : Rows} {ord : List Nat} (O : IsOrd rs ord) : 1 ≤ ord.length := by
  have := (O.mem 0).mpr .z
  cases ord with
  | nil => exact absurd this List.not_mem_nil
  | cons x xs => simp
theorem IsOrd.ends {rs : Rows} {f : List Int} {ord : List Nat} (O : IsOrd rs ord) (hf : Fits rs f) : ∀ e ∈ edgesOf rs f ord, e.1 ∈ ord ∧ e.2.1 ∈ ord := by
  intro e he
  obtain ⟨h1, row, l, h2, h3, _⟩ := (mem_edges hf).mp he
  exact ⟨h1, (O.mem _).mpr (.s ((O.mem _).mp h1) h2 h3)⟩
/-- all settled: each state that is come to has a height -/
theorem all_have {rs : Rows} {f : List Int} {ord : List Nat} {s : RS} (O : IsOrd rs ord) (hf : Fits rs f) (z : ∃ a, s.h 0 = some a ∧ 0 ≤ a) (S : ∀ e ∈ edgesOf rs f ord, settled e s) : ∀ u, Reach rs u → ∃ a, s.h u = some a := by
  intro u r
  induction r with
  | z => exact ⟨_, z.choose_spec.1⟩
  | s r h1 h2 ih =>
    rename_i u v l row
    obtain ⟨a, ha⟩ := ih
    have hl := (List.getElem?_eq_some_iff.mp h2).1
    rw [hf row (List.mem_of_getElem? h1)] at hl
    obtain ⟨b, hb, _⟩ := S (u, v, f[l]) ((mem_edges hf).mpr ⟨(O.mem _).mpr r, row, l, h1, h2, List.getElem?_eq_getElem hl⟩) a ha
    exact ⟨b, hb⟩
theorem pot_of {rs : Rows} {f : List Int} {ord : List Nat} {s : RS} (O : IsOrd rs ord) (hf : Fits rs f) (z : ∃ a, s.h 0 = some a ∧ 0 ≤ a) (S : ∀ e ∈ edgesOf rs f ord, settled e s) : PotE (edgesOf rs f ord) fun u => (s.h u).getD 0 := by
  refine ⟨?_, fun e he => ?_⟩
  · obtain ⟨a, h1, h2⟩ := z
    show 0 ≤ (s.h 0).getD 0
    rw [h1]
    exact h2
  · obtain ⟨a, ha⟩ := all_have O hf z S e.1 ((O.mem _).mp (O.ends hf e he).1)
    obtain ⟨b, hb, hab⟩ := S e he a ha
    show (s.h e.1).getD 0 + e.2.2 ≤ (s.h e.2.1).getD 0
    rw [ha, hb]
    exact hab
theorem valid_of {rs : Rows} {es : List Bool} {f : List Int} {bd : Int} {ord : List Nat} {s : RS} (O : IsOrd rs ord) (hf : Fits rs f) (z : ∃ a, s.h 0 = some a ∧ 0 ≤ a) (S : ∀ e ∈ edgesOf rs f ord, settled e s)
    (dom : ∀ v a, s.h v = some a → v = 0 ∨ ∃ e ∈ edgesOf rs f ord, e.2.1 = v) (B : ∀ u ∈ ord, es[u]? = some true → (s.h u).getD 0 ≤ bd) : Valid rs es f bd ((List.range rs.length).map s.h) := by
  have get : ∀ (u : Nat) (o : Option Int), ((List.range rs.length).map s.h)[u]? = some o → s.h u = o := by
    intro u o h
    rw [List.getElem?_map] at h
    obtain ⟨x, h1, h2⟩ := Option.map_eq_some_iff.mp h
    have := (List.getElem?_eq_some_iff.mp h1)
    obtain ⟨hl, hx⟩ := this
    rw [List.getElem_range] at hx
    rw [hx, h2]
  have put : ∀ u, u < rs.length → ((List.range rs.length).map s.h)[u]? = some (s.h u) := by
    intro u h
    rw [List.getElem?_map, List.getElem?_range h]
    rfl
  have inO : ∀ v a, s.h v = some a → v ∈ ord := by
    intro v a h
    rcases dom v a h with h | ⟨e, he, h⟩
    · rw [h]
      exact (O.mem 0).mpr .z
    · rw [← h]
      exact (O.ends hf e he).2
  refine ⟨by rw [List.length_map, List.length_range], ?_, fun u a h => ?_⟩
  · obtain ⟨a, h1, h2⟩ := z
    exact ⟨a, by rw [put 0 (O.lt 0 ((O.mem 0).mpr .z)), h1], h2⟩
  · have hu := get u _ h
    have uo := inO u a hu
    refine ⟨fun he => ?_, fun v g he => ?_⟩
    · have := B u uo he
      rw [hu] at this
      exact this
    · obtain ⟨b, hb, hab⟩ := S (u, v, g) ((mem_edges hf).mpr ⟨uo, he⟩) a hu
      exact ⟨b, by rw [put v (O.lt v (inO v b hb)), hb], hab⟩
/-- heights give a potential -/
theorem pot_of_valid {rs : Rows} {es : List Bool} {f : List Int} {bd : Int} {ord : List Nat} {hs : List (Option Int)} (O : IsOrd rs ord) (hf : Fits rs f) (V : Valid rs es f bd hs) :
    ∃ p, PotE (edgesOf rs f ord) p ∧ ∀ u ∈ ord, hs[u]? = some (some (p u)) := by
  have all : ∀ u, Reach rs u → ∃ a, hs[u]? = some (some a) := by
    intro u r
    induction r with
    | z => exact ⟨_, V.2.1.choose_spec.1⟩
    | s r h1 h2 ih =>
      rename_i u v l row
      obtain ⟨a, ha⟩ := ih
      have hl := (List.getElem?_eq_some_iff.mp h2).1
      rw [hf row (List.mem_of_getElem? h1)] at hl
      obtain ⟨b, hb, _⟩ := (V.2.2 u a ha).2 v f[l] ⟨row, l, h1, h2, List.getElem?_eq_getElem hl⟩
      exact ⟨b, hb⟩
  have val : ∀ (u : Nat) (a : Int), hs[u]? = some (some a) → ((hs[u]?).getD none).getD 0 = a := fun u a h => by rw [h]; rfl
  refine ⟨fun u => ((hs[u]?).getD none).getD 0, ⟨?_, fun e he => ?_⟩, fun u hu => ?_⟩
  · obtain ⟨a, h1, h2⟩ := V.2.1
    show 0 ≤ ((hs[0]?).getD none).getD 0
    rw [val 0 a h1]
    exact h2
  · obtain ⟨h1, h2⟩ := (mem_edges hf).mp he
    obtain ⟨a, ha⟩ := all e.1 ((O.mem _).mp h1)
    obtain ⟨b, hb, hab⟩ := (V.2.2 _ a ha).2 _ _ h2
    show ((hs[e.1]?).getD none).getD 0 + e.2.2 ≤ ((hs[e.2.1]?).getD none).getD 0
    rw [val _ a ha, val _ b hb]
    exact hab
  · obtain ⟨a, ha⟩ := all u ((O.mem _).mp hu)
    show hs[u]? = some (some (((hs[u]?).getD none).getD 0))
    rw [val _ a ha, ha]
/-! ### the row and the ring of many states -/
def rsLong (n : Nat) (ring : Bool) : Rows := (List.range (n - 1)).map (fun i => [some (i + 1)]) ++ [[if ring then some 0 else none]]
def esLong (n : Nat) : List Bool := List.replicate (n - 1) false ++ [true]
def hsLong (n : Nat) (own : Int) : List (Option Int) := (List.range n).map fun (i : Nat) => some (own * (i : Int))
theorem long_edge {n : Nat} {ring : Bool} {own : Int} (hn : 1 ≤ n) {u v : Nat} {g : Int} : Edge (rsLong n ring) [own] u v g ↔ g = own ∧ (u + 1 < n ∧ v = u + 1 ∨ u + 1 = n ∧ ring = true ∧ v = 0) := by
  have get : ∀ row, (rsLong n ring)[u]? = some row ↔ (u + 1 < n ∧ row = [some (u + 1)] ∨ u + 1 = n ∧ row = [if ring then some 0 else none]) := by
    intro row
    unfold rsLong
    by_cases h : u < n - 1
    · rw [List.getElem?_append_left (by rw [List.length_map, List.length_range]; exact h), List.getElem?_map, List.getElem?_range h]
      constructor
      · intro e
        exact .inl ⟨by omega, (Option.some.inj e).symm⟩
      · rintro (⟨_, rfl⟩ | ⟨e, _⟩)
        · rfl
        · omega
    · rw [List.getElem?_append_right (by rw [List.length_map, List.length_range]; omega), List.length_map, List.length_range]
      by_cases h2 : u = n - 1
      · rw [h2, Nat.sub_self]
        constructor
        · intro e
          exact .inr ⟨by omega, (Option.some.inj e).symm⟩
        · rintro (⟨e, _⟩ | ⟨_, rfl⟩)
          · omega
          · rfl
      · rw [List.getElem?_eq_none (by rw [List.length_singleton]; omega)]
        constructor
        · intro e
          cases e
        · rintro (⟨e, _⟩ | ⟨e, _⟩) <;> omega
  constructor
  · rintro ⟨row, l, h1, h2, h3⟩
    have hl : l = 0 := by
      have := (List.getElem?_eq_some_iff.mp h3).1
      rw [List.length_singleton] at this
      omega
    subst hl
    refine ⟨(Option.some.inj h3).symm, ?_⟩
    rcases (get row).mp h1 with ⟨a, rfl⟩ | ⟨a, rfl⟩
    · exact .inl ⟨a, by simpa using h2.symm⟩
    · cases ring with
      | true => exact .inr ⟨a, rfl, by simpa using h2.symm⟩
      | false => simp at h2
  · rintro ⟨rfl, ⟨a, rfl⟩ | ⟨a, rfl, rfl⟩⟩
    · exact ⟨_, 0, (get _).mpr (.inl ⟨a, rfl⟩), rfl, rfl⟩
    · exact ⟨_, 0, (get _).mpr (.inr ⟨a, rfl⟩), rfl, rfl⟩
theorem long_len {n : Nat} {ring : Bool} (hn : 1 ≤ n) : (rsLong n ring).length = n := by
  unfold rsLong
  rw [List.length_append, List.length_map, List.length_range, List.length_singleton]
  omega
theorem long_end {n u : Nat} (hn : 1 ≤ n) : (esLong n)[u]? = some true ↔ u + 1 = n := by
  unfold esLong
  by_cases h : u < n - 1
  · rw [List.getElem?_append_left (by rw [List.length_replicate]; exact h), List.getElem?_replicate, if_pos h]
    constructor
    · intro e
      cases e
    · intro e
      omega
  · rw [List.getElem?_append_right (by rw [List.length_replicate]; omega), List.length_replicate]
    by_cases h2 : u = n - 1
    · rw [h2, Nat.sub_self]
      exact ⟨fun _ => by omega, fun _ => rfl⟩
    · rw [List.getElem?_eq_none (by rw [List.length_singleton]; omega)]
      constructor
      · intro e
        cases e
      · intro e
        omega
def dueLong (n : Nat) (ring : Bool) (own bd : Int) : Prop := (own < 1 ∨ ring = false) ∧ own * ((n : Int) - 1) ≤ bd
theorem hsLong_get {n : Nat} {own : Int} {u : Nat} {o : Option Int} : (hsLong n own)[u]? = some o ↔ u < n ∧ o = some (own * (u : Int)) := by
  unfold hsLong
  rw [List.getElem?_map]
  by_cases h : u < n
  · rw [List.getElem?_range h]
    exact ⟨fun e => ⟨h, (Option.some.inj e).symm⟩, fun ⟨_, e⟩ => by rw [e]; rfl⟩
  · rw [List.getElem?_eq_none (by rw [List.length_range]; omega)]
    constructor
    · intro e
      cases e
    · rintro ⟨a, _⟩
      exact absurd a h
theorem long_least {n : Nat} {ring : Bool} {own bd : Int} (hn : 2 ≤ n) : Valid (rsLong n ring) (esLong n) [own] bd (hsLong n own) ↔ dueLong n ring own bd := by
  have hc : ((n - 1 : Nat) : Int) = (n : Int) - 1 := by omega
  constructor
  · intro V
    have hl := (hsLong_get (n := n) (own := own) (u := n - 1) (o := some (own * ((n - 1 : Nat) : Int)))).mpr ⟨by omega, rfl⟩
    obtain ⟨h1, h2⟩ := V.2.2 _ _ hl
    refine ⟨?_, ?_⟩
    · cases ring with
      | false => exact .inr rfl
      | true =>
        left
        obtain ⟨b, hb, hab⟩ := h2 0 own ((long_edge (by omega)).mpr ⟨rfl, .inr ⟨by omega, rfl, rfl⟩⟩)
        have := (hsLong_get.mp hb).2
        cases this
        rw [hc] at hab
        have e : own * ((n : Int) - 1) + own = own * (n : Int) := by rw [Int.mul_sub]; omega
        rw [e] at hab
        refine Int.not_le.mp fun z => ?_
        have : (1 : Int) * (n : Int) ≤ own * (n : Int) := Int.mul_le_mul_of_nonneg_right z (by omega)
        have : own * ((0 : Nat) : Int) = 0 := Int.mul_zero own
        omega
    · have := h1 ((long_end (by omega)).mpr (by omega))
      rw [hc] at this
      exact this
  · rintro ⟨h1, h2⟩
    refine ⟨by rw [long_len (by omega)]; unfold hsLong; rw [List.length_map, List.length_range], ⟨own * ((0 : Nat) : Int), hsLong_get.mpr ⟨by omega, rfl⟩, by rw [show own * ((0 : Nat) : Int) = 0 from Int.mul_zero own]; exact Int.le_refl _⟩, fun u a hu => ?_⟩
    obtain ⟨ul, ua⟩ := hsLong_get.mp hu
    cases ua
    refine ⟨fun he => ?_, fun v g he => ?_⟩
    · have := (long_end (by omega)).mp he
      rw [show (u : Int) = (n : Int) - 1 by omega]
      exact h2
    · obtain ⟨rfl, ⟨a, rfl⟩ | ⟨a, hr, rfl⟩⟩ := (long_edge (by omega)).mp he
      · refine ⟨g * ((u + 1 : Nat) : Int), hsLong_get.mpr ⟨a, rfl⟩, ?_⟩
        rw [show ((u + 1 : Nat) : Int) = (u : Int) + 1 by omega, Int.mul_add, Int.mul_one]
        exact Int.le_refl _
      · refine ⟨g * ((0 : Nat) : Int), hsLong_get.mpr ⟨by omega, rfl⟩, ?_⟩
        rcases h1 with h1 | h1
        · have e : g * (u : Int) + g = g * (n : Int) := by
            rw [show (n : Int) = (u : Int) + 1 by omega, Int.mul_add, Int.mul_one]
          rw [e, show g * ((0 : Nat) : Int) = 0 from Int.mul_zero g]
          exact Int.mul_nonpos_of_nonpos_of_nonneg (by omega) (by omega)
        · rw [hr] at h1
          cases h1
theorem long_none {n : Nat} {ring : Bool} {own bd : Int} (hn : 2 ≤ n) (hd : ¬ dueLong n ring own bd) (hs : List (Option Int)) : ¬ Valid (rsLong n ring) (esLong n) [own] bd hs := by
  intro V
  obtain ⟨x, hx, hx0⟩ := V.2.1
  have up : ∀ u : Nat, u < n → ∃ a, hs[u]? = some (some a) ∧ x + own * (u : Int) ≤ a := by
    intro u
    induction u with
    | zero => intro _; exact ⟨x, hx, by rw [show own * ((0 : Nat) : Int) = 0 from Int.mul_zero own]; omega⟩
    | succ u ih =>
      intro hu
      obtain ⟨a, h1, h2⟩ := ih (by omega)
      obtain ⟨b, hb, hab⟩ := (V.2.2 u a h1).2 (u + 1) own ((long_edge (by omega)).mpr ⟨rfl, .inl ⟨hu, rfl⟩⟩)
      refine ⟨b, hb, ?_⟩
      rw [show ((u + 1 : Nat) : Int) = (u : Int) + 1 by omega, Int.mul_add, Int.mul_one]
      omega
  obtain ⟨a, h1, h2⟩ := up (n - 1) (by omega)
  rw [show ((n - 1 : Nat) : Int) = (n : Int) - 1 by omega] at h2
  obtain ⟨h3, h4⟩ := V.2.2 _ a h1
  have h5 := h3 ((long_end (by omega)).mpr (by omega))
  refine hd ⟨?_, by omega⟩
  cases ring with
  | false => exact .inr rfl
  | true =>
    left
    obtain ⟨b, hb, hab⟩ := h4 0 own ((long_edge (by omega)).mpr ⟨rfl, .inr ⟨by omega, rfl, rfl⟩⟩)
    rw [hx] at hb
    cases hb
    have e : own * ((n : Int) - 1) + own = own * (n : Int) := by rw [Int.mul_sub]; omega
    refine Int.not_le.mp fun z => ?_
    have : (1 : Int) * (n : Int) ≤ own * (n : Int) := Int.mul_le_mul_of_nonneg_right z (by omega)
    omega

/-! ### enumerate of a tuple -/
abbrev tupIt (l : Addr) : Obj := { cls := .type "tuple_iterator", data := .fields #[.ref l, .int 0 0] }
abbrev enumOb (i : Addr) : Obj := { cls := .type "enumerate", data := .fields #[.none, .bool false, .ref i, rawInt 0, .none, .none] }
theorem enum_tup_new (l : Addr) (xs : Array Value) (n : Nat) (y : Option Addr) (sl : Array (Option Value)) :
    Meets (Builtin.«enumerate.__new__» ⟨[.type "enumerate", .ref l], []⟩) (fun _ R s => s.heap.get? l = some { cls := .type "tuple", dict := y, data := .seq xs n, slots := sl } ∧
      R (.ok (.ret (.ref (s.heap.push (tupIt l)).objs.size))) { s with heap := (s.heap.push (tupIt l)).push (enumOb s.heap.objs.size) }) := by
  refine .of_wp fun prog w A R s h => ?_
  cases s
  have k1 := h.1
  have k2 := h.2
  have k3 := sub_enumerate
  have k4 : Heap.IsTuple _ l xs := ⟨_, k1, rfl, n, rfl⟩
  wp_walk using AutoSeq1.wpAny_loadPart' k1
  refine wpAny_stack_any fun st => wpAny_pure ?_
  split
  · rename_i c _ _ _ _ _
    cases (c == Value.type "enumerate") <;> (wp_walk using AutoSeq1.wpAny_loadPart' k1, wpAny_pyIter_tuple k4 <;> exact ⟨_, rfl, k2⟩)
  · wp_walk using AutoSeq1.wpAny_loadPart' k1, wpAny_pyIter_tuple k4
    exact ⟨_, rfl, k2⟩
section
variable {prog : Program} {w : World} {A : Around} {E : Value → Shared → Prop} {s : Shared}
theorem call_enum_tup {l : Addr} {xs : Array Value} {Q : Value → Shared → Prop} (hl : s.heap.IsTuple l xs)
    (fin : ∀ h2, IsEnum h2 (s.heap.objs.size + 1) s.heap.objs.size 0 .none → h2.IsTupleIter s.heap.objs.size l 0 → (∀ b o, s.heap.get? b = some o → h2.get? b = some o) → Q (.ref (s.heap.objs.size + 1)) { s with heap := h2 }) :
    wpAny (model prog w) A (call (.type "enumerate") [.ref l]) Q E s := by
  obtain ⟨⟨c, y, data, sl⟩, ho, hc, n, hd⟩ := hl
  simp only at hc hd
  cases hc
  cases hd
  have e1 : (s.heap.push (tupIt l)).objs.size = s.heap.objs.size + 1 := Heap.size_push ..
  have e2 : ((s.heap.push (tupIt l)).push (enumOb s.heap.objs.size)).get? (s.heap.objs.size + 1) = some (enumOb s.heap.objs.size) := by
    rw [← e1]
    exact Heap.get?_push_size _ rfl
  refine callType_new F.called_enumerate (by decide) (F.typeCall_enumerate_1 _) (F.newCall_enumerate_1 _) (fun obj => F.args_object_init_2 obj _) F.entry_enumerate_new (enum_tup_new l xs n y sl) ⟨ho, ?_⟩
  rw [e1]
  exact ⟨⟨_, e2, rfl⟩, fin _ e2 ⟨_, Heap.get?_push_of_some _ (Heap.get?_push_size _ rfl), rfl, rfl⟩ fun b o q => Heap.get?_push_of_some _ (Heap.get?_push_of_some _ q)⟩
end
/-- the tuple at a, each item in a new pair behind its number -/
def ItT (K : PySem.W.Frag) (a : Addr) : It :=
  ⟨fun i H => ∃ (xs : List V) (x : V), SqT K H a xs ∧ xs[i]? = some x,
    fun i H v H' => ∃ T x, v = .ref T ∧ H T = none ∧ H' = upd H T (.tup [.int (i : Nat), x]) ∧ ∀ xs, SqT K H a xs → xs[i]? = some x,
    fun i H => ∃ xs : List V, SqT K H a xs ∧ xs.length ≤ i⟩
theorem turn_enumT {P : Program} {w : World} {K : PySem.W.Frag} {elts : List Expr} {kk : Nat} {tpos : Pos} (a e it : Addr) :
    Turn P w K (.Tuple elts kk tpos) (ItT K a) [e, it] e (fun i h => (∃ old, IsEnum h e it ((i : Nat) : Int) old) ∧ h.IsTupleIter it a i ∧ e ≠ it) where
  mem := List.mem_cons_self
  obj := fun i h st b hb => by
    obtain ⟨⟨old, he⟩, ⟨o, ho, hc, hd⟩, _⟩ := st
    rcases List.mem_cons.mp hb with z | z
    · subst z
      exact ⟨_, he, fun v q => nomatch q⟩
    · rw [List.mem_singleton.mp z]
      refine ⟨o, ho, fun v q => ?_⟩
      rw [hd] at q
      cases q
  keep := fun i h h2 st k => ⟨st.1.imp fun old he => k e List.mem_cons_self _ he, st.2.1.at fun o q => k it (List.mem_cons_of_mem _ (List.mem_singleton.mpr rfl)) o q, st.2.2⟩
  item := by
    intro X hP hw hK hc i pins s σ H E I hf st hg
    cases hP
    cases hw
    cases hK
    obtain ⟨⟨old, he⟩, hit, hne⟩ := st
    obtain ⟨xs, x, hq, hx⟩ := hg
    obtain ⟨its, rv, p, hz⟩ := I.tuple hq
    obtain ⟨u, hu, ru⟩ := rv.get hx
    have lt1 : e < s.heap.objs.size := Heap.lt_size he
    have lt2 : it < s.heap.objs.size := by
      obtain ⟨_, q, _⟩ := id hit
      exact Heap.lt_size q
    have pT : s.heap.IsTuple a its.toArray := p
    have nea : e ≠ a := fun z => by
      obtain ⟨o, q1, q2, _⟩ := id pT
      rw [← z] at q1
      cases (he.symm.trans q1)
      exact absurd (Value.type.inj q2) (by decide)
    have nia : a ≠ it := fun z => by
      obtain ⟨o, q1, q2, _⟩ := id pT
      obtain ⟨o2, q3, q4, _⟩ := id hit
      rw [z] at q1
      cases (q1.symm.trans q3)
      rw [q2] at q4
      exact absurd (Value.type.inj q4) (by decide)
    have no : e ∉ [it, a] := fun z => by
      rcases List.mem_cons.mp z with z | z
      · exact hne z
      · exact nea (List.mem_singleton.mp z)
    have hlt : i < its.toArray.size := by
      rw [List.size_toArray, ← rv.length]
      exact (List.getElem?_eq_some_iff.mp hx).1
    refine wpAny_pyNext_enum_itemD (Draws.tuple (by rw [show X.A.in1.handled = X.A.handled from rfl]; exact I.ok.hd hc) it a nia its.toArray) he ⟨hit, pT⟩ hlt hne no fun v h2 tk hv ho st2 hT hsz hk => ?_
    have ev : v = u := by
      have q1 : its.toArray[i]? = some u := by simpa using hu
      rw [q1] at hv
      exact (Option.some.inj hv).symm
    cases ev
    refine ⟨_, rfl, wpAny_letOwnedTupleGo_enum (s := { s with heap := h2, toks := tk + 1 }) ho fun h3 he3 sb => ?_⟩
    have hT3 : h3.get? s.heap.objs.size = some { cls := .type "tuple", data := .seq #[.int i tk, u] } := (sb.2 _ (Nat.ne_of_gt lt1)).trans hT
    have new : ObjOk X.prog X.w (upd H s.heap.objs.size (.tup [.int (i : Nat), x])) h3 s.heap.objs.size (.tup [.int (i : Nat), x]) := ⟨by show 2 ≤ sizeLine; decide, [.int i tk, u], .cons ⟨_, rfl⟩ (.cons ru .nil), ⟨_, hT3, rfl, _, rfl⟩⟩
    have mem1 : ∀ {b : Addr}, b ∉ [e, it] → b ≠ e ∧ b ≠ it := fun h => ⟨fun z => h (z ▸ List.mem_cons_self), fun z => h (z ▸ List.mem_cons_of_mem _ (List.mem_singleton.mpr rfl))⟩
    have I1 : Inv X pins σ (upd H s.heap.objs.size (.tup [.int (i : Nat), x])) { s with heap := h3, toks := tk + 1 } :=
      I.turnedNew (ch := [e, it]) (fun b ob hb q => (sb.2 b (mem1 hb).1).trans (hk b ob (mem1 hb).1 (mem1 hb).2 q)) hf (Nat.le_refl _) new
    refine ⟨.ref s.heap.objs.size, _, I1, rfl, ⟨_, x, rfl, I.hok.fresh (Nat.le_refl _), rfl, fun ys hy => by rw [I.tuple_inj hy hq]; exact hx⟩, ⟨⟨u, ?_⟩, st2.1.at fun o q => (sb.2 it (Ne.symm hne)).trans q, hne⟩, fun b hb => ?_⟩
    · rw [show ((i + 1 : Nat) : Int) = (i : Int) + 1 from by omega]
      exact he3
    · rw [upd_ne]
      · exact (hf b hb).1
      · rcases List.mem_cons.mp hb with z | z
        · rw [z]
          exact Nat.ne_of_lt lt1
        · rw [List.mem_singleton.mp z]
          exact Nat.ne_of_lt lt2
  done := by
    intro X hP hw hK hc i pins s σ H E I hf st hg
    cases hP
    cases hw
    cases hK
    obtain ⟨⟨old, he⟩, hit, hne⟩ := st
    obtain ⟨xs, hq, hx⟩ := hg
    obtain ⟨its, rv, p, hz⟩ := I.tuple hq
    obtain ⟨f0, f1, f2, f3, f4, f5⟩ := hf it (List.mem_cons_of_mem _ (List.mem_singleton.mpr rfl))
    have pT : s.heap.IsTuple a its.toArray := p
    have hl := rv.length
    have D : Draws X.prog X.w X.A.in1 it [it, a] i (fun _ _ => False) (fun j h => j = i ∧ h.IsTupleIter it a i ∧ h.IsTuple a its.toArray) := {
      live := fun _ _ st => let ⟨o, ho, _⟩ := st.2.1; ⟨o, ho⟩
      frame := fun _ _ _ st hk => ⟨st.1, st.2.1.at fun o e => hk it List.mem_cons_self o e, st.2.2.at fun o e => hk a (List.mem_cons_of_mem _ (List.mem_singleton.mpr rfl)) o e⟩
      item := fun j s Q E hj st _ => absurd st.1 (Nat.ne_of_lt hj)
      done := fun s Q E st hE => wpAny_nextOf_tuple_end (I.ok.hd hc) st.2.1 st.2.2 (by rw [List.getElem?_toArray]; exact List.getElem?_eq_none (by omega)) hE }
    exact wpAny_pyNext_enum_endD D he ⟨rfl, hit, pT⟩ fun h2 eb => ⟨rfl, I.turned (t' := s.toks) (fun b o hb q => eb b o hb q) f0 f1 f3 f4 f5⟩
  self := fun A i s Q E st h => wpAny_pyIter_enum st.1.choose_spec h
def iEnumT (K : PySem.W.Frag) (ta : TA) : TI := fun σ H R => ta σ H fun vs H1 => ∃ a xs, vs = [.ref a] ∧ SqT K H1 a xs ∧ R (ItT K a) H1
theorem pi_enumT {X : Cx} {e : Expr} {ta : TA} {p pos tpos : Pos} {elts : List Expr} {kk : Nat} (g : Gl X "enumerate") (m : X.mg "enumerate" = none) (ha : PA X [e] ta) (hs : starEach [e] X.env = [(false, eval e X.env)] := by rfl) :
    PI X (.Tuple elts kk tpos) (.Call (.Name "enumerate" p) [e] [] pos) (iEnumT X.K ta) := by
  refine ⟨fun pins s σ H R I h => Call_ (ld_blt I g m boot_enumerate (PyProof.Rows.callWith_type1 (thn (ha.run pos pins s σ H _ I h) fun us s1 w => ?_) hs rfl))⟩
  obtain ⟨vs, H1, I1, r1, a, xs, rfl, hq, k⟩ := w
  cases r1 with
  | cons r rr =>
    cases rr
    cases r
    obtain ⟨its, rv, pl, _⟩ := I1.tuple hq
    refine call_enum_tup (show s1.heap.IsTuple a its.toArray from pl) fun h2 he hit hk => wpAny_pyIter_enum he ?_
    have I2 : Inv X pins σ H1 { s1 with heap := h2 } := I1.kept (t' := s1.toks) hk
    refine ⟨s1.heap.objs.size + 1, [s1.heap.objs.size + 1, s1.heap.objs.size], _, _, H1, rfl, I2, turn_enumT a _ s1.heap.objs.size, ⟨⟨.none, he⟩, hit, Nat.succ_ne_self _⟩, fun b hb => ?_, k⟩
    have le : s1.heap.objs.size ≤ b := by
      rcases List.mem_cons.mp hb with z | z
      · rw [z]
        exact Nat.le_add_right _ _
      · exact Nat.le_of_eq (List.mem_singleton.mp z).symm
    exact I1.fpOk le (I1.hok.fresh le)
theorem walk_enumT {K : PySem.W.Frag} {a : Addr} {xs : List V} : Walk (ItT K a) xs.length (fun H => SqT K H a xs) (YPair (fun i => some (.int (i : Nat))) (fun i => xs[i]?)) := by
  refine ⟨fun i _ hi q => ⟨xs, xs[i], q, List.getElem?_eq_getElem hi⟩, fun _ q => ⟨xs, q, Nat.le_refl _⟩, fun i H v H' _ q y => ?_⟩
  obtain ⟨T, x, h1, h2, h3, h4⟩ := y
  exact ⟨T, .int (i : Nat), x, h1, h2, h3, rfl, h4 xs q⟩
theorem all_take' {α : Type} {f : α → Bool} {ds : List α} : ((ds.map f).all id) = ds.all f := by
  rw [List.all_map]
  rfl
/-! ### machines, forms, heights as data -/
def natV (n : Nat) : V := .int (n : Int)
def oV : Option Nat → V
  | none => .non
  | some k => .int (k : Int)
def oD : Option Nat → PyData
  | none => .none
  | some k => .int (k : Int)
def hV : Option Int → V
  | none => .non
  | some k => .int k
def hD : Option Int → PyData
  | none => .none
  | some k => .int k
def rowDt (row : List (Option Nat)) : PyData := .tuple (row.map oD)
def machDt (L : Nat) (rs : Rows) (es : List Bool) : PyData := .tuple [.int (L : Int), .tuple (rs.map rowDt), .tuple (es.map .bool)]
def formDt (f : List Int) : PyData := .tuple (f.map .int)
def hsDt (hs : List (Option Int)) : PyData := .tuple (hs.map hD)
structure MOk (L : Nat) (rs : Rows) (es : List Bool) : Prop where
  l1 : 1 ≤ rs.length
  l400 : rs.length ≤ 400
  row : ∀ row ∈ rs, row.length = L
  tgt : ∀ row ∈ rs, ∀ v, some v ∈ row → v < rs.length
  es : es.length = rs.length
  L1 : 1 ≤ L
  L3 : L ≤ 3
theorem MOk.reach_lt {L : Nat} {rs : Rows} {es : List Bool} (M : MOk L rs es) : ∀ u, Reach rs u → u < rs.length := by
  intro u r
  cases r with
  | z => exact M.l1
  | s r h1 h2 => exact M.tgt _ (List.mem_of_getElem? h1) _ (List.mem_of_getElem? h2)
section
variable {B : Addr → Prop} {K : PySem.W.Frag} {H H' : Hp}
theorem dt_sc {α : Type} {fD : α → PyData} {fV : α → V} (h1 : ∀ x v, Dt B K H v (fD x) → v = fV x) : ∀ {xs : List α} {vs : List V}, DtAll B K H vs (xs.map fD) → vs = xs.map fV
  | [], _, h => by cases h; rfl
  | x :: xs, _, h => by
    cases h with
    | cons a b => rw [h1 _ _ a, dt_sc h1 b]; rfl
theorem dt_cs {α : Type} {fD : α → PyData} {fV : α → V} (h1 : ∀ x, Dt B K H (fV x) (fD x)) : ∀ xs : List α, DtAll B K H (xs.map fV) (xs.map fD)
  | [] => .nil
  | x :: xs => .cons (h1 x) (dt_cs h1 xs)
theorem o_sc (x : Option Nat) (v : V) (h : Dt B K H v (oD x)) : v = oV x := by
  cases x with
  | none => cases h; rfl
  | some k => cases h; rfl
theorem o_cs (x : Option Nat) : Dt B K H (oV x) (oD x) := by
  cases x with
  | none => exact .non
  | some k => exact .int _
theorem h_sc (x : Option Int) (v : V) (h : Dt B K H v (hD x)) : v = hV x := by
  cases x with
  | none => cases h; rfl
  | some k => cases h; rfl
theorem h_cs (x : Option Int) : Dt B K H (hV x) (hD x) := by
  cases x with
  | none => exact .non
  | some k => exact .int _
theorem i_sc (x : Int) (v : V) (h : Dt B K H v (.int x)) : v = .int x := by cases h; rfl
theorem b_sc (x : Bool) (v : V) (h : Dt B K H v (.bool x)) : v = .bl x := by cases h; rfl
/-- a machine as it lies -/
structure MA (H : Hp) (L : Nat) (rs : Rows) (es : List Bool) (m pr pe : Addr) (rvs : List V) : Prop where
  hm : Rd H m (.tup [.int (L : Int), .ref pr, .ref pe])
  hr : Rd H pr (.tup rvs)
  hl : rvs.length = rs.length
  row : ∀ (u : Nat) (row : List (Option Nat)), rs[u]? = some row → ∃ q, rvs[u]? = some (.ref q) ∧ Rd H q (.tup (row.map oV))
  he : Rd H pe (.tup (es.map V.bl))
theorem MA.same {L : Nat} {rs : Rows} {es : List Bool} {m pr pe : Addr} {rvs : List V} (s : Same H H') (M : MA H L rs es m pr pe rvs) : MA H' L rs es m pr pe rvs :=
  ⟨same_rd s M.hm, same_rd s M.hr, M.hl, fun u row h => let ⟨q, h1, h2⟩ := M.row u row h; ⟨q, h1, same_rd s h2⟩, same_rd s M.he⟩
theorem dt_mach {L : Nat} {rs : Rows} {es : List Bool} {v : V} (h : Dt B K H v (machDt L rs es)) : ∃ m pr pe rvs, v = .ref m ∧ ¬ B m ∧ MA H L rs es m pr pe rvs := by
  obtain ⟨m, xs, rfl, nm, hm, ha, _⟩ := h.tup_rd
  cases ha with
  | cons h1 ha =>
    cases ha with
    | cons h2 ha =>
      cases ha with
      | cons h3 ha =>
        cases ha
        cases h1
        obtain ⟨pr, rvs, rfl, _, hr, har, hl⟩ := h2.tup_rd
        obtain ⟨pe, evs, rfl, _, he, hae, _⟩ := h3.tup_rd
        rw [dt_sc b_sc hae] at he
        refine ⟨m, pr, pe, rvs, rfl, nm, hm, hr, by rw [hl, List.length_map], fun u row hu => ?_, he⟩
        obtain ⟨v, hv, hd⟩ := har.get (i := u) (d := rowDt row) (by rw [List.getElem?_map, hu]; rfl)
        obtain ⟨q, ys, rfl, _, hq, hay, _⟩ := hd.tup_rd
        rw [dt_sc o_sc hay] at hq
        exact ⟨q, hv, hq⟩
theorem dt_form {f : List Int} {v : V} (h : Dt B K H v (formDt f)) : ∃ p, v = .ref p ∧ ¬ B p ∧ Rd H p (.tup (f.map V.int)) := by
  obtain ⟨p, xs, rfl, np, hp, ha, _⟩ := h.tup_rd
  rw [dt_sc i_sc ha] at hp
  exact ⟨p, rfl, np, hp⟩
end
/-- what lies elsewhere stays where a dict alone is written -/
theorem rd_dict {H H' : Hp} {d a : Addr} {xs : List V} {kvs : List (Key × V)} (k : Keep (fun b => b = d) H H') (hd : H d = some (.dK kvs)) (h : Rd H a (.tup xs)) : Rd H' a (.tup xs) := by
  refine k.rd (fun z => ?_) h
  rw [z] at h
  rcases h with h | ⟨o, h⟩
  · rw [hd] at h
    cases h
  · rw [hd] at h
    cases h
theorem nodup_len {n : Nat} {xs : List Nat} (hn : xs.Nodup) (hlt : ∀ x ∈ xs, x < n) : xs.length ≤ n := by
  refine Nat.le_of_not_lt fun hl => ?_
  obtain ⟨a, b, h1, h2, h3⟩ := pigeon (List.range n) (fun k => xs.getD k 0) (fun k hk => by
    rw [List.length_range] at hk
    have hk2 : k < xs.length := by omega
    have e : xs.getD k 0 = xs[k] := by rw [List.getD_eq_getElem?_getD, List.getElem?_eq_getElem hk2]; rfl
    rw [e]
    exact List.mem_range.mpr (hlt _ (List.getElem_mem hk2)))
  rw [List.length_range] at h2
  have ha : a < xs.length := by omega
  have hb : b < xs.length := by omega
  have ea : xs.getD a 0 = xs[a] := by rw [List.getD_eq_getElem?_getD, List.getElem?_eq_getElem ha]; rfl
  have eb : xs.getD b 0 = xs[b] := by rw [List.getD_eq_getElem?_getD, List.getElem?_eq_getElem hb]; rfl
  rw [ea, eb] at h3
  exact absurd h3 (List.pairwise_iff_getElem.mp hn a b ha hb h1)
/-! ### graphs: rows that are lists or tuples, of many states -/
def Sq (t : Bool) (H : Hp) (a : Addr) (xs : List V) : Prop := match t with
  | true => Rd H a (.tup xs)
  | false => Rd H a (.lst xs)
theorem Sq.same {t : Bool} {H H' : Hp} {a : Addr} {xs : List V} (s : Same H H') (h : Sq t H a xs) : Sq t H' a xs := by
  cases t <;> exact same_rd s h
theorem Sq.any {t : Bool} {K : PySem.W.Frag} {H : Hp} {a : Addr} {xs : List V} (h : Sq t H a xs) : SqL K H a xs ∨ SqT K H a xs := by
  cases t
  · exact .inl (.inl h)
  · exact .inr (.inl h)
def itQ (t : Bool) (K : PySem.W.Frag) (a : Addr) : It := match t with
  | true => Itt K a
  | false => Itl K a
def itE (t : Bool) (K : PySem.W.Frag) (a : Addr) : It := match t with
  | true => ItT K a
  | false => Ite K a
theorem walk_seq {t : Bool} {K : PySem.W.Frag} {a : Addr} {xs : List V} : Walk (itQ t K a) xs.length (fun H => Sq t H a xs) (YAt xs) := by
  cases t
  · exact (walk_list (K := K)).mono (fun _ h => .inl h) fun _ _ _ _ _ _ y => y
  · exact (walk_tup (K := K)).mono (fun _ h => .inl h) fun _ _ _ _ _ _ y => y
theorem walk_enumQ {t : Bool} {K : PySem.W.Frag} {a : Addr} {xs : List V} : Walk (itE t K a) xs.length (fun H => Sq t H a xs) (YPair (fun i => some (.int (i : Nat))) (fun i => xs[i]?)) := by
  cases t
  · exact (walk_enum (K := K)).mono (fun _ h => .inl h) fun _ _ _ _ _ _ y => y
  · exact (walk_enumT (K := K)).mono (fun _ h => .inl h) fun _ _ _ _ _ _ y => y
theorem for_seq {t : Bool} {K : PySem.W.Frag} {a : Addr} {xs : List V} {g : TG} {tb : TS} {D : Ends} {σ : L2.St} {H : Hp} (Pv : Nat → L2.St → Hp → Prop) (h0 : Pv 0 σ H) (hl : ∀ i σ H, i ≤ xs.length → Pv i σ H → Sq t H a xs)
    (hs : ∀ i x σ H, xs[i]? = some x → Pv i σ H → g x σ H fun σ2 H2 => tb { D with nx := Pv (i + 1), ct := Pv (i + 1), bk := D.nx } σ2 H2) (hd : ∀ σ H, Pv xs.length σ H → D.nx σ H) :
    ∃ W : Nat → Nat → L2.St → Hp → Prop, (∃ m, W 0 m σ H) ∧ ∀ i m σ H, W i m σ H →
      ((itQ t K a).stop i H ∧ D.nx σ H) ∨ ((itQ t K a).go i H ∧ ∃ N : L2.St → Hp → Prop, (∀ σ' H', N σ' H' → ∃ m', m' < m ∧ W (i + 1) m' σ' H') ∧
        ∀ x H', (itQ t K a).yld i H x H' → g x σ H' fun σ2 H2 => tb { D with nx := N, ct := N, bk := D.nx } σ2 H2) :=
  for_it walk_seq Pv h0 hl (fun i x σ H H' _ p y => by
    obtain ⟨rfl, y⟩ := y
    exact hs i x σ _ y p) hd
theorem lc_seq {t : Bool} {K : PySem.W.Frag} {a : Addr} {xs : List V} {g : TG} {tt : TT} {te : TE} {vs : List Nat} {σ : L2.St} {H1 : Hp} {D : Addr} {Qd : Hp → Prop} (Pv : Nat → Hp → Prop) (h0 : Pv 0 (upd H1 D (.lst []))) (hl : ∀ i H, i ≤ xs.length → Pv i H → Sq t H a xs)
    (hs : ∀ i x H, xs[i]? = some x → Pv i H → g x (wipe σ vs) H fun σ2 H2 => wipe σ2 vs = wipe σ vs ∧ tt σ2 H2 fun b H3 =>
      if b = true then te σ2 H3 fun y H4 => ∃ acc, H4 D = some (.lst acc) ∧ acc.length < sizeLine ∧ Pv (i + 1) (upd H4 D (.lst (acc ++ [y]))) else Pv (i + 1) H3) (hd : ∀ H, Pv xs.length H → Qd H) :
    ∃ W : Nat → Nat → Hp → Prop, (∃ m, W 0 m (upd H1 D (.lst []))) ∧ ∀ i m H, W i m H →
      ((itQ t K a).stop i H ∧ Qd H) ∨ ((itQ t K a).go i H ∧ ∃ Nx : Hp → Prop, (∀ H', Nx H' → ∃ m', m' < m ∧ W (i + 1) m' H') ∧ ∀ x H', (itQ t K a).yld i H x H' → g x (wipe σ vs) H' fun σ2 H2 => wipe σ2 vs = wipe σ vs ∧ tt σ2 H2 fun b H3 =>
        if b = true then te σ2 H3 fun y H4 => ∃ acc, H4 D = some (.lst acc) ∧ acc.length < sizeLine ∧ Nx (upd H4 D (.lst (acc ++ [y]))) else Nx H3) :=
  lc_it walk_seq Pv h0 hl (fun i x H H' _ p y => by
    obtain ⟨rfl, y⟩ := y
    exact hs i x _ y p) hd
def rIxQ : R2 := fun x y H Q => ∃ t p xs i v, x = .ref p ∧ y = .int i ∧ Sq t H p xs ∧ atI xs i = some v ∧ Q v H
def iSeq (K : PySem.W.Frag) (tl : TE) : TI := fun σ H R => tl σ H fun x H1 => ∃ t a xs, x = .ref a ∧ Sq t H1 a xs ∧ R (itQ t K a) H1
def iEnumQ (K : PySem.W.Frag) (ta : TA) : TI := fun σ H R => ta σ H fun vs H1 => ∃ t a xs, vs = [.ref a] ∧ Sq t H1 a xs ∧ R (itE t K a) H1
section
variable {X : Cx} {tg : Expr}
theorem ix_any : IxR X rIxQ := by
  intro value slice pins s σ H x y v u Q I rx ry h hs
  obtain ⟨t, p, xs, i, o, ex, ey, hq, ha, q⟩ := h
  cases t
  · exact ix_list value slice pins s σ H x y v u Q I rx ry ⟨p, xs, i, o, ex, ey, .inl hq, ha, q⟩ hs
  · exact ix_tup value slice pins s σ H x y v u Q I rx ry ⟨p, xs, i, o, ex, ey, .inl hq, ha, q⟩ hs
theorem pi_seq {l : Expr} {tl : TE} (hl : PE X l tl) : PI X tg l (iSeq X.K tl) := by
  refine ⟨fun pins s σ H R I h => thn (hl.run pins s σ H _ I h) fun v s1 w => ?_⟩
  obtain ⟨x, H1, I1, r1, t, a, xs, rfl, hq, k⟩ := w
  cases r1
  have own : ∀ b ∈ [s1.heap.objs.size], FpOk X pins H1 b := fun b hb => by
    rw [List.mem_singleton.mp hb]
    exact I1.fpOk (Nat.le_refl _) (I1.hok.fresh (Nat.le_refl _))
  cases t
  · obtain ⟨its, _, pl, _⟩ := I1.list (.inl hq)
    exact wpAny_pyIter_list pl.isList ⟨_, _, _, _, H1, rfl, I1.kept (t' := s1.toks) fun b o e => Heap.get?_push_of_some _ e, turn_list a _, ⟨_, Heap.get?_push_size _ rfl, rfl, rfl⟩, own, k⟩
  · obtain ⟨its, _, pl, _⟩ := I1.tuple (.inl hq)
    exact wpAny_pyIter_tuple (show s1.heap.IsTuple a its.toArray from pl) ⟨_, _, _, _, H1, rfl, I1.kept (t' := s1.toks) fun b o e => Heap.get?_push_of_some _ e, turn_tuple a _, ⟨_, Heap.get?_push_size _ rfl, rfl, rfl⟩, own, k⟩
theorem pi_enumQ {e : Expr} {ta : TA} {p pos tpos : Pos} {elts : List Expr} {kk : Nat} (g : Gl X "enumerate") (m : X.mg "enumerate" = none) (ha : PA X [e] ta) (hs : starEach [e] X.env = [(false, eval e X.env)] := by rfl) :
    PI X (.Tuple elts kk tpos) (.Call (.Name "enumerate" p) [e] [] pos) (iEnumQ X.K ta) := by
  refine ⟨fun pins s σ H R I h => Call_ (ld_blt I g m boot_enumerate (PyProof.Rows.callWith_type1 (thn (ha.run pos pins s σ H _ I h) fun us s1 w => ?_) hs rfl))⟩
  obtain ⟨vs, H1, I1, r1, t, a, xs, rfl, hq, k⟩ := w
  cases r1 with
  | cons r rr =>
    cases rr
    cases r
    have own : ∀ b ∈ [s1.heap.objs.size + 1, s1.heap.objs.size], FpOk X pins H1 b := fun b hb => by
      have le : s1.heap.objs.size ≤ b := by
        rcases List.mem_cons.mp hb with z | z
        · rw [z]
          exact Nat.le_add_right _ _
        · exact Nat.le_of_eq (List.mem_singleton.mp z).symm
      exact I1.fpOk le (I1.hok.fresh le)
    cases t
    · obtain ⟨its, rv, pl, _⟩ := I1.list (.inl hq)
      refine call_enumerate_list pl.isList fun h2 he hit hsz hk => wpAny_pyIter_enum he ?_
      exact ⟨_, [s1.heap.objs.size + 1, s1.heap.objs.size], _, _, H1, rfl, I1.kept (t' := s1.toks) hk, turn_enum a _ s1.heap.objs.size, ⟨⟨.none, he⟩, hit, Nat.succ_ne_self _⟩, own, k⟩
    · obtain ⟨its, rv, pl, _⟩ := I1.tuple (.inl hq)
      refine call_enum_tup (show s1.heap.IsTuple a its.toArray from pl) fun h2 he hit hk => wpAny_pyIter_enum he ?_
      exact ⟨_, [s1.heap.objs.size + 1, s1.heap.objs.size], _, _, H1, rfl, I1.kept (t' := s1.toks) hk, turn_enumT a _ s1.heap.objs.size, ⟨⟨.none, he⟩, hit, Nat.succ_ne_self _⟩, own, k⟩
end
/-- a graph of many states -/
structure GOk (L : Nat) (rs : Rows) : Prop where
  l1 : 1 ≤ rs.length
  lN : rs.length ≤ 200000
  row : ∀ row ∈ rs, row.length = L
  tgt : ∀ row ∈ rs, ∀ v, some v ∈ row → v < rs.length
  L1 : 1 ≤ L
  L3 : L ≤ 16
/-- its rows, as they lie: lists or tuples of lists or of tuples -/
structure GA (H : Hp) (L : Nat) (rs : Rows) (t u : Bool) (pr : Addr) (rvs : List V) : Prop where
  hr : Sq t H pr rvs
  hl : rvs.length = rs.length
  row : ∀ (i : Nat) (row : List (Option Nat)), rs[i]? = some row → ∃ q, rvs[i]? = some (.ref q) ∧ Sq u H q (row.map oV)
theorem GA.same {H H' : Hp} {L : Nat} {rs : Rows} {t u : Bool} {pr : Addr} {rvs : List V} (s : Same H H') (M : GA H L rs t u pr rvs) : GA H' L rs t u pr rvs :=
  ⟨M.hr.same s, M.hl, fun i row h => let ⟨q, h1, h2⟩ := M.row i row h; ⟨q, h1, h2.same s⟩⟩
theorem MA.ga {H : Hp} {L : Nat} {rs : Rows} {es : List Bool} {m pr pe : Addr} {rvs : List V} (M : MA H L rs es m pr pe rvs) : GA H L rs true true pr rvs := ⟨M.hr, M.hl, M.row⟩
theorem MOk.g {L : Nat} {rs : Rows} {es : List Bool} (M : MOk L rs es) : GOk L rs := ⟨M.l1, Nat.le_trans M.l400 (by decide), M.row, M.tgt, M.L1, Nat.le_trans M.L3 (by decide)⟩
theorem GOk.reach_lt {L : Nat} {rs : Rows} (M : GOk L rs) (v : Nat) (h : Reach rs v) : v < rs.length := by
  induction h with
  | z => exact M.l1
  | s _ h1 h2 _ => exact M.tgt _ (List.mem_of_getElem? h1) _ (List.mem_of_getElem? h2)
theorem sz_big {n : Nat} (h : n ≤ 1000000) : n ≤ sizeLine := Nat.le_trans h (by decide)
theorem small9 {n : Nat} (h : n ≤ 1000000) : n < sizeLine := Nat.lt_of_le_of_lt h (by decide)
/-! ### reached -/
def knB (n : Nat) (ord : List Nat) : List V := (List.range n).map fun u => V.bl (decide (u ∈ ord))
theorem knB_get {n : Nat} {ord : List Nat} {u : Nat} (h : u < n) : (knB n ord)[u]? = some (.bl (decide (u ∈ ord))) := by
  unfold knB
  rw [List.getElem?_map, List.getElem?_range h]
  rfl
theorem knB_len {n : Nat} {ord : List Nat} : (knB n ord).length = n := by
  unfold knB
  rw [List.length_map, List.length_range]
theorem knB_set {n : Nat} {ord : List Nat} {v : Nat} : (knB n ord).set v (.bl true) = knB n (ord ++ [v]) := by
  refine List.ext_getElem? fun u => ?_
  rw [List.getElem?_set, knB_len]
  by_cases hu : u < n
  · rw [knB_get hu, knB_get hu]
    by_cases e : v = u
    · subst e
      rw [if_pos rfl, if_pos hu, decide_eq_true (by simp)]
    · rw [if_neg e]
      congr 2
      have : (u ∈ ord ++ [v]) ↔ u ∈ ord := by
        rw [List.mem_append, List.mem_singleton]
        exact ⟨fun h => h.elim id fun z => absurd z.symm e, .inl⟩
      rw [Bool.eq_iff_iff, decide_eq_true_iff, decide_eq_true_iff, this]
  · have h1 : (knB n ord)[u]? = none := List.getElem?_eq_none (by rw [knB_len]; omega)
    have h2 : (knB n (ord ++ [v]))[u]? = none := List.getElem?_eq_none (by rw [knB_len]; omega)
    rw [h1, h2]
    by_cases e : v = u
    · rw [if_pos e]
      rw [if_neg (by omega)]
    · rw [if_neg e]
theorem natV_get {ord : List Nat} {i u : Nat} (h : ord[i]? = some u) : (ord.map natV)[i]? = some (.int (u : Int)) := by
  rw [List.getElem?_map, h]
  rfl
theorem natV_of {ord : List Nat} {i : Nat} {v : V} (h : (ord.map natV)[i]? = some v) : ∃ u : Nat, ord[i]? = some u ∧ v = .int (u : Int) := by
  rw [List.getElem?_map] at h
  obtain ⟨u, h1, h2⟩ := Option.map_eq_some_iff.mp h
  exact ⟨u, h1, h2.symm⟩
/-- what is known of the states that were come to -/
structure ROrd (rs : Rows) (i : Nat) (ord : List Nat) : Prop where
  nd : ord.Nodup
  zero : 0 ∈ ord
  rch : ∀ u ∈ ord, Reach rs u
  cl : ∀ k, k < i → ∀ u, ord[k]? = some u → ∀ (row : List (Option Nat)) v, rs[u]? = some row → some v ∈ row → v ∈ ord
  le : i ≤ ord.length
theorem ROrd.push {rs : Rows} {i : Nat} {ord : List Nat} {v : Nat} (R : ROrd rs i ord) (hn : v ∉ ord) (hv : Reach rs v) : ROrd rs i (ord ++ [v]) where
  nd := List.nodup_append.mpr ⟨R.nd, by simp, fun a ha b hb e => hn (by rw [List.mem_singleton.mp hb] at e; exact e ▸ ha)⟩
  zero := List.mem_append_left _ R.zero
  rch := fun u hu => (List.mem_append.mp hu).elim (R.rch u) fun z => by rw [List.mem_singleton.mp z]; exact hv
  cl := fun k hk u hu row w hr hw => List.mem_append_left _ (R.cl k hk u (by rw [List.getElem?_append_left (by have := R.le; omega)] at hu; exact hu) row w hr hw)
  le := by
    rw [List.length_append]
    have := R.le
    omega
theorem ROrd.next {rs : Rows} {i u : Nat} {ord : List Nat} {row : List (Option Nat)} (R : ROrd rs i ord) (hu : ord[i]? = some u) (hr : rs[u]? = some row) (h : ∀ v, some v ∈ row → v ∈ ord) : ROrd rs (i + 1) ord where
  nd := R.nd
  zero := R.zero
  rch := R.rch
  cl := fun k hk w hw row' v hr' hv => by
    by_cases e : k = i
    · subst e
      rw [hu] at hw
      cases hw
      rw [hr] at hr'
      cases hr'
      exact h v hv
    · exact R.cl k (by omega) w hw row' v hr' hv
  le := by
    have := (List.getElem?_eq_some_iff.mp hu).1
    omega
theorem ROrd.isOrd {L : Nat} {rs : Rows} {i : Nat} {ord : List Nat} (M : GOk L rs) (R : ROrd rs i ord) (hi : ord.length ≤ i) : IsOrd rs ord where
  mem := fun u => ⟨R.rch u, fun r => by
    induction r with
    | z => exact R.zero
    | s r h1 h2 ih =>
      obtain ⟨k, hk⟩ := List.getElem?_of_mem ih
      have hl := (List.getElem?_eq_some_iff.mp hk).1
      exact R.cl k (by omega) _ hk _ _ h1 (List.mem_of_getElem? h2)⟩
  lt := fun u hu => M.reach_lt u (R.rch u hu)
  len := nodup_len R.nd fun u hu => M.reach_lt u (R.rch u hu)
  nd := R.nd
theorem ROrd.len {L : Nat} {rs : Rows} {i : Nat} {ord : List Nat} (M : GOk L rs) (R : ROrd rs i ord) : ord.length ≤ rs.length := nodup_len R.nd fun u hu => M.reach_lt u (R.rch u hu)
theorem rord0 {rs : Rows} : ROrd rs 0 [0] where
  nd := by simp
  zero := by simp
  rch := fun u hu => by rw [List.mem_singleton.mp hu]; exact .z
  cl := fun k hk => absurd hk (Nat.not_lt_zero _)
  le := Nat.zero_le _
section
variable {P : Program} {w : World} {K : PySem.W.Frag} {mg : Str → Option Value} {base : Heap}
theorem scReached : FnScope ["rows", "order", "known", "at", "state", "target"] ["rows"] (defScope sReached) := ⟨rfl, rfl, rfl, by decide +kernel, rfl, by decide +kernel, by decide +kernel⟩
def spReached : Sp := fun vs H Q _ => ∃ (L : Nat) (rs : Rows) (t u : Bool) (pr : Addr) (rvs : List V), vs = [.ref pr] ∧ GOk L rs ∧ GA H L rs t u pr rvs ∧
  ∀ (H' : Hp) (p : Addr) (ord : List Nat), Same H H' → H p = none → H' p = some (.lst (ord.map natV)) → IsOrd rs ord → Q (.ref p) H'
theorem ok_reached {f : Addr} {fd : FuncData} (F : Fun K "reached" "reached" sReached f fd) (T : Mg mg) : FnOk P w K mg base CX0 1 f fd ["rows"] spReached := by
  refine F.ok scReached (fun vs H Q E h => ?_) (fun cdv A outer s H vs Q E hr h => ?_)
  · obtain ⟨L, rs, tt, uu, pr, rvs, rfl, _⟩ := h
    rfl
  · obtain ⟨L, rs, tt, uu, pr, rvs, rfl, M, MM, k⟩ := h
    refine ⟨_, pss_cons (ps_set (i := 1) scReached.nd rfl (.inl rfl) (pe_lst (pa_cons pe_int pa_nil)))
      (pss_cons (ps_set (i := 2) scReached.nd rfl (.inl rfl) (pe_op op_rep (pe_lst (pa_cons pe_bl pa_nil)) (pe_callB (r := rLen K) call_len_seq (by rfl) T.len PySem.boot_len (pa_cons (pv 0) pa_nil))))
      (pss_cons (ps_asg pe_bl (pg_sub (pv 2) pe_int set_list))
      (pss_cons (ps_set (i := 3) scReached.nd rfl (.inl rfl) pe_int)
      (pss_cons (ps_while PassesOwn.never (pt_cmpR op_lt (pv 3) (pe_callB (r := rLen K) call_len_seq (by rfl) T.len PySem.boot_len (pa_cons (pv 1) pa_nil)) (nomark _))
        (pss_cons (ps_set (i := 4) scReached.nd rfl (.inl rfl) (pe_ix ix_list (pv 1) (pv 3) (fun _ _ => rfl)))
        (pss_cons (ps_for PassesOwn.never rfl (pi_seq (pe_ix (r := rIxQ) ix_any (pv 0) (pv 4) (fun _ _ => rfl))) (pg_name (i := 5) scReached.nd rfl (.inl rfl))
          (pss_one (ps_if (PW.pt (pw_and (pt_cmp (pc_notN (pv 5))) (pw_and1 (pt_not (pt_val (pe_ix ix_list (pv 2) (pv 5) (fun _ _ => rfl)))))))
            (pss_cons (ps_asg pe_bl (pg_sub (pv 2) (pv 5) set_list)) (pss_one (ps_expr (pe_bm PySem.F.plainAttrs_list PySem.F.slot_list_append PySem.F.type_list_append mt_append (pv 1) (pa_cons (pv 5) pa_nil)))))
            pss_nil)))
        (pss_one (ps_aug (i := 3) scReached.nd rfl (.inl rfl) pe_int ip_add)))))
      (pss_one (ps_ret (pv 1))))))), ?_⟩
    refine ⟨by show 1 ≤ sizeLine; decide, fun o ho => ?_⟩
    refine ⟨by show 1 ≤ sizeLine; decide, fun t ht => ?_⟩
    have s1 := same_new (o := .lst [.int 0]) ho
    have s2 := same_new (o := .lst [.bl false]) ht
    have M1 := MM.same (s1.trans s2)
    refine ⟨_, rfl, pr, rvs, rfl, M1.hr.any, ?_⟩
    have hlen := MM.hl
    have l1 := M.l1
    have l4 := M.lN
    refine ⟨t, (rvs.length : Int), [V.bl false], rfl, rfl, upd_same, by omega, by omega, sz_big (by rw [List.length_singleton]; omega), fun kn hk => ?_⟩
    refine ⟨.ref kn, rfl, kn, _, 0, 0, rfl, rfl, upd_same, ?_, ?_⟩
    · unfold ixN
      rw [if_pos (by omega), if_pos]
      · rfl
      · simp
        omega
    have ek : ((List.replicate (rvs.length : Int).toNat [V.bl false]).flatten).set 0 (.bl true) = knB rs.length [0] := by
      have e0 : (List.replicate (rvs.length : Int).toNat [V.bl false]).flatten = knB rs.length [] := by
        refine List.ext_getElem? fun u => ?_
        rw [show (List.replicate (rvs.length : Int).toNat [V.bl false]).flatten = List.replicate rs.length (V.bl false) by rw [hlen]; simp]
        by_cases hu : u < rs.length
        · rw [knB_get hu, List.getElem?_replicate, if_pos hu]
          rfl
        · rw [List.getElem?_eq_none (by rw [List.length_replicate]; omega), List.getElem?_eq_none (by rw [knB_len]; omega)]
      rw [e0]
      exact knB_set
    rw [ek]
    have s3 := same_new (o := .lst (List.replicate (rvs.length : Int).toNat [V.bl false]).flatten) hk
    have nko : kn ≠ o := fun z => by
      rw [z, s2 _ _ upd_same] at hk
      cases hk
    have hG : ∃ G, G = upd (upd (upd (upd H o (.lst [.int 0])) t (.lst [.bl false])) kn (.lst (List.replicate (rvs.length : Int).toNat [V.bl false]).flatten)) kn (.lst (knB rs.length [0])) := ⟨_, rfl⟩
    obtain ⟨G, hG⟩ := hG
    rw [← hG]
    have sG : Same H G := fun b u e => by
      have e3 := s3 _ _ (s2 _ _ (s1 _ _ e))
      rw [hG]
      have : b ≠ kn := fun z => by
        rw [z] at e
        have := s2 _ _ (s1 _ _ e)
        rw [hk] at this
        cases this
      rw [upd_ne this]
      exact e3
    have gO : G o = some (.lst ([0].map natV)) := by
      rw [hG, upd_ne nko.symm]
      exact s3 _ _ (s2 _ _ upd_same)
    have gK : G kn = some (.lst (knB rs.length [0])) := by rw [hG, upd_same]
    have kn0 : H kn = none := by
      cases z : H kn with
      | none => rfl
      | some u =>
        have := s2 _ _ (s1 _ _ z)
        rw [hk] at this
        cases this
    clear hG ek
    have pushH : ∀ {H1 : Hp} {ord : List Nat} {v : Nat}, Same H H1 → H1 o = some (.lst (ord.map natV)) → H1 kn = some (.lst (knB rs.length ord)) →
        Same H (upd (upd H1 kn (.lst (knB rs.length (ord ++ [v])))) o (.lst (ord.map natV ++ [V.int (v : Int)]))) ∧ (upd (upd H1 kn (.lst (knB rs.length (ord ++ [v])))) o (.lst (ord.map natV ++ [V.int (v : Int)]))) o = some (.lst ((ord ++ [v]).map natV)) ∧
        (upd (upd H1 kn (.lst (knB rs.length (ord ++ [v])))) o (.lst (ord.map natV ++ [V.int (v : Int)]))) kn = some (.lst (knB rs.length (ord ++ [v]))) := by
      intro H1 ord v sm h1 h2
      refine ⟨fun b u e => ?_, by rw [upd_same, List.map_append]; rfl, by rw [upd_ne nko, upd_same]⟩
      rw [upd_ne (ne_of_none e ho), upd_ne (ne_of_none e kn0)]
      exact sm b u e
    refine while_by (fun σ H' => ∃ (i : Nat) (ord : List Nat) (y4 y5 : Option V), σ = [some (.ref pr), some (.ref o), some (.ref kn), some (.int (i : Int)), y4, y5] ∧ Same H H' ∧ H' o = some (.lst (ord.map natV)) ∧ H' kn = some (.lst (knB rs.length ord)) ∧ ROrd rs i ord)
      (fun (σ : List (Option V)) (_ : Hp) => match σ[3]? with
        | some (some (V.int i)) => 200001 - i.toNat
        | _ => 0) ⟨0, [0], none, none, rfl, sG, gO, gK, rord0⟩ ?_ ?_
    · rintro σ H1 ⟨i, ord, y4, y5, rfl, sm, h1, h2, R⟩
      have hol := R.len M
      refine ⟨_, rfl, _, rfl, o, _, rfl, .inl (SqL.of h1), _, _, rfl, rfl, _, rfl, ite2 (fun hlt => ?_) fun hlt => ?_⟩
      · have hlt := of_decide_eq_true hlt
        rw [List.length_map] at hlt
        have hi : i < ord.length := by omega
        have hu : ord[i]? = some ord[i] := List.getElem?_eq_getElem hi
        have hmu := List.getElem_mem hi
        generalize ord[i] = u at *
        have hun := M.reach_lt u (R.rch u hmu)
        have hrow : rs[u]? = some rs[u] := List.getElem?_eq_getElem hun
        have hmr := List.getElem_mem hun
        generalize rs[u] = row at *
        have MM1 := MM.same sm
        obtain ⟨q, hq1, hq2⟩ := MM.row u row hrow
        refine ⟨_, rfl, _, rfl, o, _, (i : Int), _, rfl, rfl, SqL.of h1, atI_nat (natV_get hu), ?_⟩
        refine ⟨_, rfl, _, rfl, tt, pr, rvs, (u : Int), _, rfl, rfl, MM1.hr, atI_nat hq1, uu, q, _, rfl, hq2.same sm, ?_⟩
        refine for_seq (t := uu) (K := K) (a := q) (xs := row.map oV) (fun j σ H' => (∃ y5, σ = [some (.ref pr), some (.ref o), some (.ref kn), some (.int (i : Int)), some (.int (u : Int)), y5]) ∧ Same H H' ∧ ∃ ord', H' o = some (.lst (ord'.map natV)) ∧ H' kn = some (.lst (knB rs.length ord')) ∧ ROrd rs i ord' ∧ ord'[i]? = some u ∧ ∀ k, k < j → ∀ v, row[k]? = some (some v) → v ∈ ord')
          ⟨⟨_, rfl⟩, sm, ord, h1, h2, R, hu, fun k hk => absurd hk (Nat.not_lt_zero _)⟩ (fun j σ H' _ p => hq2.same p.2.1) ?_ ?_
        · rintro j x σ H2 hx ⟨⟨y5, rfl⟩, sm2, ord', g1, g2, R', hu', hall⟩
          rw [List.getElem?_map] at hx
          obtain ⟨tg, hj, rfl⟩ := Option.map_eq_some_iff.mp hx
          refine ⟨_, rfl, _, rfl, ?_⟩
          cases tg with
          | none =>
            refine ⟨⟨_, rfl⟩, sm2, ord', g1, g2, R', hu', fun k hk v hv => ?_⟩
            by_cases e : k = j
            · rw [e, hj] at hv
              cases hv
            · exact hall k (by omega) v hv
          | some v =>
            have hvn := M.tgt row hmr v (List.mem_of_getElem? hj)
            have hrv : Reach rs v := .s (R'.rch u (List.mem_of_getElem? hu')) hrow hj
            refine ⟨_, rfl, _, rfl, kn, _, (v : Int), _, rfl, rfl, SqL.of g2, atI_nat (knB_get hvn), _, rfl, ?_⟩
            by_cases hin : v ∈ ord'
            · rw [decide_eq_true hin]
              refine ⟨⟨_, rfl⟩, sm2, ord', g1, g2, R', hu', fun k hk w hw => ?_⟩
              by_cases e : k = j
              · rw [e, hj] at hw
                cases hw
                exact hin
              · exact hall k (by omega) w hw
            · rw [decide_eq_false hin]
              refine ⟨_, rfl, _, rfl, kn, _, (v : Int), v, rfl, rfl, g2, Evl.ixN_nat (by rw [knB_len]; exact hvn), ?_⟩
              rw [knB_set]
              have g1' : (upd H2 kn (.lst (knB rs.length (ord' ++ [v])))) o = some (.lst (ord'.map natV)) := by
                rw [upd_ne nko.symm]
                exact g1
              have hol2 := (R'.push hin hrv).len M
              rw [List.length_append, List.length_singleton] at hol2
              refine ⟨_, rfl, .inl ⟨rfl, _, SqL.of g1'⟩, _, rfl, o, _, _, rfl, rfl, g1', (by rw [List.length_map]; exact Nat.lt_of_lt_of_le (show ord'.length < 200000 by omega) (by decide)), ?_⟩
              obtain ⟨q1, q2, q3⟩ := pushH (v := v) sm2 g1 g2
              refine ⟨⟨_, rfl⟩, q1, ord' ++ [v], q2, q3, R'.push hin hrv, ?_, fun k hk w hw => ?_⟩
              · rw [List.getElem?_append_left (List.getElem?_eq_some_iff.mp hu').1]
                exact hu'
              · by_cases e : k = j
                · rw [e, hj] at hw
                  cases hw
                  exact List.mem_append_right _ (List.mem_singleton.mpr rfl)
                · exact List.mem_append_left _ (hall k (by omega) w hw)
        · rintro σ H2 ⟨⟨y5, rfl⟩, sm2, ord', g1, g2, R', hu', hall⟩
          have R'' := R'.next hu' hrow (fun v hv => by
            obtain ⟨k, hk⟩ := List.getElem?_of_mem hv
            exact hall k (by rw [List.length_map]; exact (List.getElem?_eq_some_iff.mp hk).1) v hk)
          have hl2 := R''.len M
          have hle := R''.le
          refine ⟨_, rfl, _, _, rfl, rfl, ⟨i + 1, ord', _, _, rfl, sm2, g1, g2, R''⟩, ?_⟩
          show 200001 - ((i : Int) + 1).toNat < 200001 - (i : Int).toNat
          omega
      · refine ⟨_, rfl, k H1 o ord sm ho h1 (R.isOrd M ?_)⟩
        have h9 : ¬ ((i : Int) < ((ord.map natV).length : Int)) := fun z => hlt (decide_eq_true z)
        rw [List.length_map] at h9
        omega
    · rintro σ H1 Q1 Q2 hQ ⟨x, e1, y, e2, p, ys, e3, e4, i, j, e5, e6, b, e7, q⟩
      exact ⟨x, e1, y, e2, p, ys, e3, e4, i, j, e5, e6, b, e7, hQ _ _ q⟩
end
/-! ### machines, their words and what states are the same -/
abbrev Rws := List (List (Option Nat))
def nx (rs : Rws) (s c : Nat) : Option Nat := (rs.getD s []).getD c none
def acc (rs : Rws) (es : List Bool) : List Nat → Nat → Bool
  | [], s => es.getD s false
  | c :: w, s => match nx rs s c with
    | none => false
    | some t => acc rs es w t
def Live (rs : Rws) (es : List Bool) (s : Nat) : Prop := ∃ w, acc rs es w s = true
/-- state s of one machine has the words of state t of another one -/
def Eqv (rs : Rws) (es : List Bool) (rs' : Rws) (es' : List Bool) (s t : Nat) : Prop := ∀ w, acc rs es w s = acc rs' es' w t
theorem Eqv.refl {rs : Rws} {es : List Bool} (s : Nat) : Eqv rs es rs es s s := fun _ => rfl
theorem Eqv.symm {rs rs' : Rws} {es es' : List Bool} {s t : Nat} (h : Eqv rs es rs' es' s t) : Eqv rs' es' rs es t s := fun w => (h w).symm
theorem Eqv.trans {rs rs' rs2 : Rws} {es es' es2 : List Bool} {s t u : Nat} (h : Eqv rs es rs' es' s t) (g : Eqv rs' es' rs2 es2 t u) : Eqv rs es rs2 es2 s u := fun w => (h w).trans (g w)
theorem Eqv.live {rs rs' : Rws} {es es' : List Bool} {s t : Nat} (h : Eqv rs es rs' es' s t) (l : Live rs es s) : Live rs' es' t := by
  obtain ⟨w, hw⟩ := l
  exact ⟨w, by rw [← h w]; exact hw⟩
theorem acc_cons {rs : Rws} {es : List Bool} {s c t : Nat} {w : List Nat} (h : nx rs s c = some t) : acc rs es (c :: w) s = acc rs es w t := by
  show (match nx rs s c with | none => false | some t => acc rs es w t) = _
  rw [h]
theorem acc_none {rs : Rws} {es : List Bool} {s c : Nat} {w : List Nat} (h : nx rs s c = none) : acc rs es (c :: w) s = false := by
  show (match nx rs s c with | none => false | some t => acc rs es w t) = _
  rw [h]
/-- a way on that leads to words -/
def Way (rs : Rws) (es : List Bool) (s c t : Nat) : Prop := nx rs s c = some t ∧ Live rs es t
theorem Eqv.way {rs rs' : Rws} {es es' : List Bool} {s s' c t : Nat} (h : Eqv rs es rs' es' s s') (w : Way rs es s c t) : ∃ t', Way rs' es' s' c t' ∧ Eqv rs es rs' es' t t' := by
  obtain ⟨e, v, hv⟩ := w
  have h1 := h (c :: v)
  rw [acc_cons e, hv] at h1
  cases e' : nx rs' s' c with
  | none =>
    rw [acc_none e'] at h1
    cases h1
  | some t' =>
    rw [acc_cons e'] at h1
    refine ⟨t', ⟨e', v, h1.symm⟩, fun u => ?_⟩
    have h2 := h (c :: u)
    rw [acc_cons e, acc_cons e'] at h2
    exact h2
/-- the smallest machine, numbered by the first words; ps: which states of the machine stand for its own -/
structure Canon (rs : Rws) (es : List Bool) (L : Nat) (ps : List Nat) (out : Rws) (oe : List Bool) : Prop where
  lo : out.length = ps.length
  le : oe.length = ps.length
  zero : ps[0]? = some 0
  live : ∀ p ∈ ps, Live rs es p
  one : ∀ (i j p q : Nat), ps[i]? = some p → ps[j]? = some q → Eqv rs es rs es p q → i = j
  wide : ∀ r ∈ out, r.length = L
  ends : ∀ (i p : Nat), ps[i]? = some p → oe[i]? = some (es.getD p false)
  some_ : ∀ (i p c j : Nat), ps[i]? = some p → nx out i c = some j → ∃ t q, Way rs es p c t ∧ ps[j]? = some q ∧ Eqv rs es rs es t q
  none_ : ∀ (i p c t : Nat), ps[i]? = some p → c < L → nx out i c = none → ¬ Way rs es p c t
  over : ∀ (p c t : Nat), p ∈ ps → Way rs es p c t → c < L
  ord : ∀ (j : Nat), 1 ≤ j → j < ps.length → ∃ (i c : Nat), i < j ∧ nx out i c = some j ∧ ∀ (i' c' j' : Nat), nx out i' c' = some j' → j ≤ j' → i < i' ∨ (i = i' ∧ c ≤ c')
section
variable {rs rs' : Rws} {es es' : List Bool} {L : Nat} {ps ps' : List Nat} {out out' : Rws} {oe oe' : List Bool}
theorem Canon.go (C : Canon rs es L ps out oe) {i p c t : Nat} (hp : ps[i]? = some p) (w : Way rs es p c t) : ∃ j q, nx out i c = some j ∧ ps[j]? = some q ∧ Eqv rs es rs es t q := by
  have hc := C.over p c t (List.mem_of_getElem? hp) w
  cases e : nx out i c with
  | none => exact absurd w (C.none_ i p c t hp hc e)
  | some j =>
    obtain ⟨t', q, w', hq, he⟩ := C.some_ i p c j hp e
    have : t' = t := Option.some.inj (w'.1.symm.trans w.1)
    subst this
    exact ⟨j, q, rfl, hq, he⟩
theorem canon_same (C : Canon rs es L ps out oe) (C' : Canon rs' es' L ps' out' oe') (h0 : Eqv rs es rs' es' 0 0) : ∀ (j p : Nat), ps[j]? = some p → ∃ p', ps'[j]? = some p' ∧ Eqv rs es rs' es' p p' := by
  intro j
  induction j using Nat.strongRecOn with
  | ind j ih =>
    intro p hp
    by_cases z : j = 0
    · subst z
      have : p = 0 := Option.some.inj (hp.symm.trans C.zero)
      subst this
      exact ⟨0, C'.zero, h0⟩
    · have hj := (List.getElem?_eq_some_iff.mp hp).1
      obtain ⟨i, c, hij, hic, hmin⟩ := C.ord j (by omega) hj
      obtain ⟨pi, hpi⟩ : ∃ pi, ps[i]? = some pi := ⟨_, List.getElem?_eq_getElem (show i < ps.length by omega)⟩
      obtain ⟨t, q, w, hq, he⟩ := C.some_ i pi c j hpi hic
      have : q = p := Option.some.inj (hq.symm.trans hp)
      subst this
      obtain ⟨pi', hpi', hei⟩ := ih i hij pi hpi
      obtain ⟨t', w', het⟩ := hei.way w
      obtain ⟨j', q', hic', hq', he'⟩ := C'.go hpi' w'
      have key : Eqv rs es rs' es' q q' := he.symm.trans (het.trans he')
      have : j' = j := by
        rcases Nat.lt_trichotomy j' j with l | l | l
        · obtain ⟨p2, hp2⟩ : ∃ p2, ps[j']? = some p2 := ⟨_, List.getElem?_eq_getElem (show j' < ps.length by omega)⟩
          obtain ⟨q2, hq2, e2⟩ := ih j' l p2 hp2
          have : q2 = q' := Option.some.inj (hq2.symm.trans hq')
          subst this
          exact C.one _ _ _ _ hp2 hp (e2.trans key.symm)
        · exact l
        · have hj' := (List.getElem?_eq_some_iff.mp hq').1
          obtain ⟨i2, c2, hi2, h2, hm2⟩ := C'.ord j (by omega) (by omega)
          have lt := hm2 i c j' hic' (by omega)
          obtain ⟨p2, hp2⟩ : ∃ p2, ps[i2]? = some p2 := ⟨_, List.getElem?_eq_getElem (show i2 < ps.length by omega)⟩
          obtain ⟨p2', hp2', e2⟩ := ih i2 hi2 p2 hp2
          obtain ⟨t2', q2', w2', hq2', he2'⟩ := C'.some_ i2 p2' c2 j hp2' h2
          obtain ⟨t2, w2, het2⟩ := e2.symm.way w2'
          obtain ⟨j2, q2, hic2, hq2, he2⟩ := C.go hp2 w2
          have l2 : j2 < j := by
            rcases Nat.lt_or_ge j2 j with g | g
            · exact g
            · have g2 := hmin i2 c2 j2 hic2 g
              have ne : ¬ (i2 = i ∧ c2 = c) := by
                rintro ⟨rfl, rfl⟩
                rw [hic'] at h2
                have := Option.some.inj h2
                omega
              omega
          obtain ⟨q3, hq3, e3⟩ := ih j2 l2 q2 hq2
          have e4 : Eqv rs' es' rs' es' q3 q2' := e3.symm.trans (he2.symm.trans (het2.symm.trans he2'))
          have := C'.one _ _ _ _ hq3 hq2' e4
          omega
      subst this
      exact ⟨q', hq', key⟩
theorem canon_len (C : Canon rs es L ps out oe) (C' : Canon rs' es' L ps' out' oe') (h0 : Eqv rs es rs' es' 0 0) : ps.length ≤ ps'.length := by
  rcases Nat.lt_or_ge ps'.length ps.length with h | h
  · obtain ⟨p', hp', _⟩ := canon_same C C' h0 ps'.length _ (List.getElem?_eq_getElem h)
    have := (List.getElem?_eq_some_iff.mp hp').1
    omega
  · exact h
theorem canon_nx (C : Canon rs es L ps out oe) (C' : Canon rs' es' L ps' out' oe') (h0 : Eqv rs es rs' es' 0 0) {i c j : Nat} (hi : i < ps.length) (h : nx out i c = some j) : nx out' i c = some j := by
  obtain ⟨p, hp⟩ : ∃ p, ps[i]? = some p := ⟨_, List.getElem?_eq_getElem hi⟩
  obtain ⟨p', hp', e⟩ := canon_same C C' h0 i p hp
  obtain ⟨t, q, w, hq, he⟩ := C.some_ i p c j hp h
  obtain ⟨t', w', het⟩ := e.way w
  obtain ⟨j', q', hj', hq', he'⟩ := C'.go hp' w'
  obtain ⟨q2, hq2, e2⟩ := canon_same C C' h0 j q hq
  have := C'.one _ _ _ _ hq2 hq' (e2.symm.trans (he.symm.trans (het.trans he')))
  rw [this]
  exact hj'
theorem nx_in {rs : Rws} {s c : Nat} (hs : s < rs.length) (hc : c < rs[s].length) : nx rs s c = rs[s][c] := by
  have e : rs.getD s [] = rs[s] := by rw [List.getD_eq_getElem?_getD, List.getElem?_eq_getElem hs, Option.getD_some]
  unfold nx
  rw [e, List.getD_eq_getElem?_getD, List.getElem?_eq_getElem hc, Option.getD_some]
/-- two such machines of the same words are one -/
theorem canon_eq (C : Canon rs es L ps out oe) (C' : Canon rs' es' L ps' out' oe') (h0 : Eqv rs es rs' es' 0 0) : out = out' ∧ oe = oe' := by
  have hl : ps.length = ps'.length := Nat.le_antisymm (canon_len C C' h0) (canon_len C' C h0.symm)
  have lo := C.lo
  have lo' := C'.lo
  have le := C.le
  have le' := C'.le
  refine ⟨List.ext_getElem (by omega) fun i h1 h2 => List.ext_getElem ?_ fun c g1 g2 => ?_, List.ext_getElem (by omega) fun i h1 h2 => ?_⟩
  · rw [C.wide _ (List.getElem_mem h1), C'.wide _ (List.getElem_mem h2)]
  · rw [← nx_in h1 g1, ← nx_in h2 g2]
    cases e : nx out i c with
    | none =>
      cases e' : nx out' i c with
      | none => rfl
      | some j =>
        have := canon_nx C' C h0.symm (by omega) e'
        rw [e] at this
        cases this
    | some j => exact (canon_nx C C' h0 (by omega) e).symm
  · obtain ⟨p, hp⟩ : ∃ p, ps[i]? = some p := ⟨_, List.getElem?_eq_getElem (show i < ps.length by omega)⟩
    obtain ⟨p', hp', e⟩ := canon_same C C' h0 i p hp
    have a := C.ends i p hp
    have b := C'.ends i p' hp'
    rw [List.getElem?_eq_getElem h1] at a
    rw [List.getElem?_eq_getElem h2] at b
    rw [Option.some.inj a, Option.some.inj b]
    exact e []
/-- the words of the smallest machine -/
theorem canon_acc (C : Canon rs es L ps out oe) : ∀ (w : List Nat) (i p : Nat), ps[i]? = some p → acc out oe w i = acc rs es w p
  | [], i, p, hp => by
    show oe.getD i false = es.getD p false
    rw [List.getD_eq_getElem?_getD, C.ends i p hp]
    rfl
  | c :: w, i, p, hp => by
    cases e : nx out i c with
    | some j =>
      obtain ⟨t, q, wy, hq, he⟩ := C.some_ i p c j hp e
      rw [acc_cons e, acc_cons wy.1, canon_acc C w j q hq, he w]
    | none =>
      rw [acc_none e]
      cases e' : acc rs es (c :: w) p with
      | false => rfl
      | true =>
        cases e2 : nx rs p c with
        | none =>
          rw [acc_none e2] at e'
          cases e'
        | some t =>
          rw [acc_cons e2] at e'
          obtain ⟨j, _, hj, _⟩ := C.go hp ⟨e2, w, e'⟩
          rw [e] at hj
          cases hj
theorem canon_eqv (C : Canon rs es L ps out oe) : Eqv out oe rs es 0 0 := fun w => canon_acc C w 0 0 C.zero
end
/-! ### lots of states, numbered -/
structure PB (rs : Rws) (es : List Bool) (L : Nat) (bl : Nat → Option Nat) : Prop where
  wide : ∀ r ∈ rs, r.length = L
  tgt : ∀ r ∈ rs, ∀ t, some t ∈ r → t < rs.length
  inn : ∀ s b, bl s = some b → s < rs.length ∧ Live rs es s
  same : ∀ s t b, bl s = some b → (bl t = some b ↔ ((∃ b', bl t = some b') ∧ Eqv rs es rs es s t))
  on : ∀ s b c t, bl s = some b → Way rs es s c t → ∃ b', bl t = some b'
section
variable {rs : Rws} {es : List Bool} {L : Nat} {bl : Nat → Option Nat}
theorem nx_lt {rs : Rws} {L s c t : Nat} (wide : ∀ r ∈ rs, r.length = L) (h : nx rs s c = some t) : s < rs.length ∧ c < L ∧ ∃ r ∈ rs, some t ∈ r := by
  unfold nx at h
  rw [List.getD_eq_getElem?_getD, List.getD_eq_getElem?_getD] at h
  cases e : rs[s]? with
  | none =>
    rw [e] at h
    cases h
  | some r =>
    rw [e, Option.getD_some] at h
    have hr := List.mem_of_getElem? e
    cases e2 : r[c]? with
    | none =>
      rw [e2] at h
      cases h
    | some o =>
      rw [e2, Option.getD_some] at h
      subst h
      have h1 := (List.getElem?_eq_some_iff.mp e2).1
      rw [wide r hr] at h1
      exact ⟨(List.getElem?_eq_some_iff.mp e).1, h1, r, hr, List.mem_of_getElem? e2⟩
/-- what is there of the table while state after state is numbered: done has the rows that are whole, row the one that is being made -/
structure NI (rs : Rws) (L : Nat) (bl : Nat → Option Nat) (picked nums : List Nat) (done : Rws) (row : List (Option Nat)) : Prop where
  bls : picked.map bl = nums.map some
  nd : nums.Nodup
  zero : picked[0]? = some 0
  lt : done.length ≤ picked.length
  wide : ∀ r ∈ done, r.length = L
  yes : ∀ (i c j : Nat), nx (done ++ [row]) i c = some j → ∃ p t b, picked[i]? = some p ∧ nx rs p c = some t ∧ bl t = some b ∧ nums[j]? = some b
  no : ∀ (i c p t : Nat), (i < done.length ∧ c < L) ∨ (i = done.length ∧ c < row.length) → nx (done ++ [row]) i c = none → picked[i]? = some p → nx rs p c = some t → bl t = none
  ord : ∀ (j : Nat), 1 ≤ j → j < picked.length → ∃ (i c : Nat), i < j ∧ nx (done ++ [row]) i c = some j ∧ ∀ (i' c' j' : Nat), nx (done ++ [row]) i' c' = some j' → j ≤ j' → i < i' ∨ (i = i' ∧ c ≤ c')
theorem out_none {done : Rws} {row : List (Option Nat)} {i : Nat} (l : done.length < i) : (done ++ [row])[i]? = none := List.getElem?_eq_none (by rw [List.length_append, List.length_singleton]; omega)
theorem nx_over {done : Rws} {row : List (Option Nat)} {i c j : Nat} (h : nx (done ++ [row]) i c = some j) : i < done.length ∨ (i = done.length ∧ c < row.length) := by
  unfold nx at h
  rw [List.getD_eq_getElem?_getD, List.getD_eq_getElem?_getD] at h
  rcases Nat.lt_trichotomy i done.length with l | l | l
  · exact .inl l
  · right
    subst l
    refine ⟨rfl, ?_⟩
    rw [List.getElem?_append_right (Nat.le_refl _), Nat.sub_self, List.getElem?_cons_zero, Option.getD_some] at h
    rcases Nat.lt_or_ge c row.length with g | g
    · exact g
    · rw [List.getElem?_eq_none g] at h
      cases h
  · rw [out_none l] at h
    cases h
theorem nx_more {done : Rws} {row : List (Option Nat)} {e : Option Nat} {i c : Nat} : nx (done ++ [row ++ [e]]) i c = if i = done.length ∧ c = row.length then e else nx (done ++ [row]) i c := by
  unfold nx
  rw [List.getD_eq_getElem?_getD, List.getD_eq_getElem?_getD, List.getD_eq_getElem?_getD, List.getD_eq_getElem?_getD]
  rcases Nat.lt_trichotomy i done.length with l | l | l
  · rw [if_neg (by omega), List.getElem?_append_left l, List.getElem?_append_left l]
  · subst l
    rw [List.getElem?_append_right (Nat.le_refl _), List.getElem?_append_right (Nat.le_refl _), Nat.sub_self, List.getElem?_cons_zero, List.getElem?_cons_zero, Option.getD_some, Option.getD_some]
    rcases Nat.lt_trichotomy c row.length with g | g | g
    · rw [if_neg (by omega), List.getElem?_append_left g]
    · subst g
      rw [if_pos ⟨rfl, rfl⟩, List.getElem?_append_right (Nat.le_refl _), Nat.sub_self, List.getElem?_cons_zero, Option.getD_some]
    · rw [if_neg (by omega), List.getElem?_eq_none (by rw [List.length_append, List.length_singleton]; omega), List.getElem?_eq_none (by omega)]
  · rw [if_neg (by omega), out_none l, out_none l]
theorem nx_new {done : Rws} {i c : Nat} : nx (done ++ [[]]) i c = nx done i c := by
  unfold nx
  rw [List.getD_eq_getElem?_getD, List.getD_eq_getElem?_getD, List.getD_eq_getElem?_getD, List.getD_eq_getElem?_getD]
  rcases Nat.lt_trichotomy i done.length with l | l | l
  · rw [List.getElem?_append_left l]
  · subst l
    rw [List.getElem?_append_right (Nat.le_refl _), Nat.sub_self, List.getElem?_cons_zero, List.getElem?_eq_none (Nat.le_refl _)]
    rfl
  · rw [out_none l, List.getElem?_eq_none (show done.length ≤ i by omega)]
variable {picked nums : List Nat} {done : Rws} {row : List (Option Nat)}
theorem NI.len (h : NI rs L bl picked nums done row) : picked.length = nums.length := by
  have := congrArg List.length h.bls
  rwa [List.length_map, List.length_map] at this
theorem NI.at_ (h : NI rs L bl picked nums done row) {i p : Nat} (e : picked[i]? = some p) : ∃ b, nums[i]? = some b ∧ bl p = some b := by
  have := congrArg (fun x : List (Option Nat) => x[i]?) h.bls
  simp only [List.getElem?_map, e, Option.map_some] at this
  cases e2 : nums[i]? with
  | none =>
    rw [e2] at this
    cases this
  | some b =>
    rw [e2] at this
    exact ⟨b, rfl, Option.some.inj this⟩
theorem ni_start {b0 : Nat} (h : bl 0 = some b0) : NI rs L bl [0] [b0] [] [] where
  bls := by show [bl 0] = _; rw [h]; rfl
  nd := List.nodup_cons.mpr ⟨List.not_mem_nil, List.nodup_nil⟩
  zero := rfl
  lt := Nat.zero_le _
  wide := fun r hr => absurd hr List.not_mem_nil
  yes := fun i c j h => by
    rcases nx_over h with g | ⟨_, g⟩
    · exact absurd g (Nat.not_lt_zero _)
    · exact absurd g (Nat.not_lt_zero _)
  no := fun i c p t h => by
    rcases h with ⟨g, _⟩ | ⟨_, g⟩
    · exact absurd g (Nat.not_lt_zero _)
    · exact absurd g (Nat.not_lt_zero _)
  ord := fun j h1 h2 => by
    have : j < 1 := h2
    omega
/-- a place of a row that leads to no lot -/
theorem NI.none_ (h : NI rs L bl picked nums done row) (hd : ∀ (p t : Nat), picked[done.length]? = some p → nx rs p row.length = some t → bl t = none) : NI rs L bl picked nums done (row ++ [none]) where
  bls := h.bls
  nd := h.nd
  zero := h.zero
  lt := h.lt
  wide := h.wide
  yes := fun i c j q => by
    rw [nx_more] at q
    split at q
    · cases q
    · exact h.yes i c j q
  no := fun i c p t hi q hp ht => by
    by_cases z : i = done.length ∧ c = row.length
    · obtain ⟨rfl, rfl⟩ := z
      exact hd p t hp ht
    · rw [nx_more, if_neg z] at q
      refine h.no i c p t ?_ q hp ht
      rw [List.length_append, List.length_singleton] at hi
      omega
  ord := fun j h1 h2 => by
    obtain ⟨i, c, g1, g2, g3⟩ := h.ord j h1 h2
    have g4 := nx_over g2
    refine ⟨i, c, g1, by rw [nx_more, if_neg (by omega)]; exact g2, fun i' c' j' q hj => ?_⟩
    rw [nx_more] at q
    split at q
    · cases q
    · exact g3 i' c' j' q hj
theorem NI.some_ (h : NI rs L bl picked nums done row) {p t b j : Nat} (hp : picked[done.length]? = some p) (ht : nx rs p row.length = some t) (hb : bl t = some b) (hj : nums[j]? = some b) : NI rs L bl picked nums done (row ++ [some j]) where
  bls := h.bls
  nd := h.nd
  zero := h.zero
  lt := h.lt
  wide := h.wide
  yes := fun i c j' q => by
    by_cases z : i = done.length ∧ c = row.length
    · obtain ⟨rfl, rfl⟩ := z
      rw [nx_more, if_pos ⟨rfl, rfl⟩] at q
      cases q
      exact ⟨p, t, b, hp, ht, hb, hj⟩
    · rw [nx_more, if_neg z] at q
      exact h.yes i c j' q
  no := fun i c p' t' hi q hp' ht' => by
    by_cases z : i = done.length ∧ c = row.length
    · rw [nx_more, if_pos z] at q
      cases q
    · rw [nx_more, if_neg z] at q
      refine h.no i c p' t' ?_ q hp' ht'
      rw [List.length_append, List.length_singleton] at hi
      omega
  ord := fun j1 h1 h2 => by
    obtain ⟨i, c, g1, g2, g3⟩ := h.ord j1 h1 h2
    have g4 := nx_over g2
    refine ⟨i, c, g1, by rw [nx_more, if_neg (by omega)]; exact g2, fun i' c' j' q hj' => ?_⟩
    by_cases z : i' = done.length ∧ c' = row.length
    · omega
    · rw [nx_more, if_neg z] at q
      exact g3 i' c' j' q hj'
theorem NI.fresh (h : NI rs L bl picked nums done row) {p t b : Nat} (hp : picked[done.length]? = some p) (ht : nx rs p row.length = some t) (hb : bl t = some b) (hn : b ∉ nums) : NI rs L bl (picked ++ [t]) (nums ++ [b]) done (row ++ [some picked.length]) where
  bls := by rw [List.map_append, List.map_append, h.bls]; show _ ++ [bl t] = _; rw [hb]; rfl
  nd := by
    rw [List.nodup_append]
    refine ⟨h.nd, List.nodup_cons.mpr ⟨List.not_mem_nil, List.nodup_nil⟩, fun x hx y hy => ?_⟩
    rw [List.mem_singleton.mp hy]
    exact fun e => hn (e ▸ hx)
  zero := by
    have := (List.getElem?_eq_some_iff.mp h.zero).1
    rw [List.getElem?_append_left this]
    exact h.zero
  lt := by
    have := h.lt
    rw [List.length_append]
    omega
  wide := h.wide
  yes := fun i c j' q => by
    have hl := h.len
    by_cases z : i = done.length ∧ c = row.length
    · obtain ⟨rfl, rfl⟩ := z
      rw [nx_more, if_pos ⟨rfl, rfl⟩] at q
      cases q
      exact ⟨p, t, b, by rw [List.getElem?_append_left (List.getElem?_eq_some_iff.mp hp).1]; exact hp, ht, hb, by rw [List.getElem?_append_right (by omega), hl, Nat.sub_self]; rfl⟩
    · rw [nx_more, if_neg z] at q
      obtain ⟨p', t', b', e1, e2, e3, e4⟩ := h.yes i c j' q
      exact ⟨p', t', b', by rw [List.getElem?_append_left (List.getElem?_eq_some_iff.mp e1).1]; exact e1, e2, e3, by rw [List.getElem?_append_left (List.getElem?_eq_some_iff.mp e4).1]; exact e4⟩
  no := fun i c p' t' hi q hp' ht' => by
    have hd := (List.getElem?_eq_some_iff.mp hp).1
    by_cases z : i = done.length ∧ c = row.length
    · rw [nx_more, if_pos z] at q
      cases q
    · rw [nx_more, if_neg z] at q
      rw [List.length_append, List.length_singleton] at hi
      refine h.no i c p' t' (by omega) q ?_ ht'
      rw [List.getElem?_append_left (by omega)] at hp'
      exact hp'
  ord := fun j1 h1 h2 => by
    have hd := (List.getElem?_eq_some_iff.mp hp).1
    have hl := h.len
    rw [List.length_append, List.length_singleton] at h2
    by_cases y : j1 < picked.length
    · obtain ⟨i, c, g1, g2, g3⟩ := h.ord j1 h1 y
      have g4 := nx_over g2
      refine ⟨i, c, g1, by rw [nx_more, if_neg (by omega)]; exact g2, fun i' c' j' q hj' => ?_⟩
      by_cases z : i' = done.length ∧ c' = row.length
      · omega
      · rw [nx_more, if_neg z] at q
        exact g3 i' c' j' q hj'
    · have : j1 = picked.length := by omega
      subst this
      refine ⟨done.length, row.length, hd, by rw [nx_more, if_pos ⟨rfl, rfl⟩], fun i' c' j' q hj' => ?_⟩
      by_cases z : i' = done.length ∧ c' = row.length
      · omega
      · rw [nx_more, if_neg z] at q
        obtain ⟨_, _, _, _, _, _, e4⟩ := h.yes i' c' j' q
        have := (List.getElem?_eq_some_iff.mp e4).1
        omega
/-- a whole row -/
theorem NI.whole (h : NI rs L bl picked nums done row) (hl : row.length = L) (hd : done.length < picked.length) : NI rs L bl picked nums (done ++ [row]) [] where
  bls := h.bls
  nd := h.nd
  zero := h.zero
  lt := by
    rw [List.length_append, List.length_singleton]
    exact hd
  wide := fun r hr => by
    rcases List.mem_append.mp hr with hr | hr
    · exact h.wide r hr
    · rw [List.mem_singleton.mp hr]
      exact hl
  yes := fun i c j q => by
    rw [nx_new] at q
    exact h.yes i c j q
  no := fun i c p t hi q hp ht => by
    rw [nx_new] at q
    rw [List.length_append, List.length_singleton] at hi
    refine h.no i c p t ?_ q hp ht
    rcases hi with ⟨g1, g2⟩ | ⟨_, g⟩
    · by_cases z : i = done.length
      · right
        omega
      · left
        omega
    · exact absurd g (Nat.not_lt_zero _)
  ord := fun j h1 h2 => by
    obtain ⟨i, c, g1, g2, g3⟩ := h.ord j h1 h2
    refine ⟨i, c, g1, by rw [nx_new]; exact g2, fun i' c' j' q hj => ?_⟩
    rw [nx_new] at q
    exact g3 i' c' j' q hj
theorem nodup_at {xs : List Nat} (h : xs.Nodup) {i j b : Nat} (h1 : xs[i]? = some b) (h2 : xs[j]? = some b) : i = j := by
  have l1 := (List.getElem?_eq_some_iff.mp h1).1
  exact (List.getElem?_inj l1 h).mp (h1.trans h2.symm)
/-- all rows made: the smallest machine -/
theorem NI.canon (h : NI rs L bl picked nums done []) (B : PB rs es L bl) (hd : done.length = picked.length) : Canon rs es L picked done (picked.map fun p => es.getD p false) where
  lo := hd
  le := List.length_map _
  zero := h.zero
  live := fun p hp => by
    obtain ⟨i, hi⟩ := List.mem_iff_getElem?.mp hp
    obtain ⟨b, _, hb⟩ := h.at_ hi
    exact (B.inn p b hb).2
  one := fun i j p q hp hq e => by
    obtain ⟨b, h1, h2⟩ := h.at_ hp
    obtain ⟨b', h3, h4⟩ := h.at_ hq
    have := (B.same p q b h2).mpr ⟨⟨b', h4⟩, e⟩
    rw [h4] at this
    have := Option.some.inj this
    subst this
    exact nodup_at h.nd h1 h3
  wide := h.wide
  ends := fun i p hp => by
    rw [List.getElem?_map, hp]
    rfl
  some_ := fun i p c j hp hj => by
    rw [← nx_new] at hj
    obtain ⟨p', t, b, e1, e2, e3, e4⟩ := h.yes i c j hj
    have : p' = p := Option.some.inj (e1.symm.trans hp)
    subst this
    have hjl := (List.getElem?_eq_some_iff.mp e4).1
    rw [← h.len] at hjl
    obtain ⟨b', f1, f2⟩ := h.at_ (List.getElem?_eq_getElem hjl)
    have : b' = b := Option.some.inj (f1.symm.trans e4)
    subst this
    exact ⟨t, _, ⟨e2, (B.inn t b' e3).2⟩, List.getElem?_eq_getElem hjl, ((B.same t _ b' e3).mp f2).2⟩
  none_ := fun i p c t hp hc hn w => by
    rw [← nx_new] at hn
    have hi := (List.getElem?_eq_some_iff.mp hp).1
    have := h.no i c p t (.inl ⟨by omega, hc⟩) hn hp w.1
    obtain ⟨b, _, hb⟩ := h.at_ hp
    obtain ⟨b', hb'⟩ := B.on p b c t hb w
    rw [this] at hb'
    cases hb'
  over := fun p c t _ w => (nx_lt B.wide w.1).2.1
  ord := fun j h1 h2 => by
    obtain ⟨i, c, g1, g2, g3⟩ := h.ord j h1 h2
    rw [nx_new] at g2
    refine ⟨i, c, g1, g2, fun i' c' j' q hj => ?_⟩
    rw [← nx_new] at q
    exact g3 i' c' j' q hj
end
/-! ### lots that are split: the lists that hold them -/
theorem cnt_in : ∀ (xs : List Nat), xs.Nodup → ∀ ys : List Nat, ys.Nodup → (∀ y ∈ ys, y ∈ xs) → (xs.filter fun x => decide (x ∈ ys)).length = ys.length
  | [], _, ys, _, h => by
    cases ys with
    | nil => rfl
    | cons y ys => exact absurd (h y List.mem_cons_self) List.not_mem_nil
  | x :: xs, nd, ys, ndy, h => by
    obtain ⟨n1, n2⟩ := List.nodup_cons.mp nd
    by_cases hx : x ∈ ys
    · have e : xs.filter (fun z => decide (z ∈ ys)) = xs.filter (fun z => decide (z ∈ ys.erase x)) := List.filter_congr fun z hz => by
        have zx : z ≠ x := fun e => n1 (e ▸ hz)
        rw [decide_eq_decide]
        exact (List.mem_erase_of_ne zx).symm
      have ih := cnt_in xs n2 (ys.erase x) (ndy.erase x) fun y hy => by
        have h1 := h y (List.mem_of_mem_erase hy)
        rcases List.mem_cons.mp h1 with rfl | h1
        · exact absurd hy (ndy.not_mem_erase)
        · exact h1
      rw [List.filter_cons, if_pos (decide_eq_true hx), List.length_cons, e, ih, List.length_erase_of_mem hx]
      have := List.length_pos_of_mem hx
      omega
    · rw [List.filter_cons, if_neg (by rw [decide_eq_true_eq]; exact hx)]
      exact cnt_in xs n2 ys ndy fun y hy => by
        rcases List.mem_cons.mp (h y hy) with rfl | h1
        · exact absurd hy hx
        · exact h1
theorem cnt_split (p : Nat → Bool) : ∀ xs : List Nat, (xs.filter p).length + (xs.filter fun x => !(p x)).length = xs.length
  | [] => rfl
  | x :: xs => by
    have ih := cnt_split p xs
    rw [List.filter_cons, List.filter_cons]
    cases p x
    · rw [if_neg (by decide), if_pos (by decide), List.length_cons, List.length_cons]
      omega
    · rw [if_pos (by decide), if_neg (by decide), List.length_cons, List.length_cons]
      omega
theorem cnt_out {xs ys : List Nat} (nx : xs.Nodup) (ny : ys.Nodup) (h : ∀ y ∈ ys, y ∈ xs) : (xs.filter fun x => !(decide (x ∈ ys))).length + ys.length = xs.length := by
  have h1 := cnt_in xs nx ys ny h
  have h2 := cnt_split (fun x => decide (x ∈ ys)) xs
  omega
theorem cnt_all {xs ys : List Nat} (nx : xs.Nodup) (ny : ys.Nodup) (h : ∀ y ∈ ys, y ∈ xs) (l : xs.length ≤ ys.length) : ∀ x ∈ xs, x ∈ ys := fun x hx => by
  have h1 := cnt_out nx ny h
  have h2 : xs.filter (fun x => !(decide (x ∈ ys))) = [] := List.eq_nil_of_length_eq_zero (by omega)
  by_cases z : x ∈ ys
  · exact z
  · have : x ∈ xs.filter (fun x => !(decide (x ∈ ys))) := List.mem_filter.mpr ⟨hx, by rw [decide_eq_false z]; rfl⟩
    rw [h2] at this
    exact absurd this List.not_mem_nil
def bv (block : List (Option Nat)) (s : Nat) : Option Nat := block.getD s none
def isB (block : List (Option Nat)) (b s : Nat) : Bool := decide (bv block s = some b)
/-- the lists go along with one another -/
structure RI (n T : Nat) (block : List (Option Nat)) (mem : List (List Nat)) (sizes : List Nat) : Prop where
  lb : block.length = n
  ms : mem.length = sizes.length
  lt : ∀ s b, bv block s = some b → b < mem.length
  sub : ∀ s b, bv block s = some b → s ∈ mem.getD b []
  nd : ∀ b, (mem.getD b []).Nodup
  szs : ∀ b, b < mem.length → sizes.getD b 0 = ((mem.getD b []).filter (isB block b)).length
  pos : ∀ z ∈ sizes, 1 ≤ z
  sum : sizes.sum = T
  inn : ∀ b s, s ∈ mem.getD b [] → s < n
theorem sum_ge : ∀ {zs : List Nat}, (∀ z ∈ zs, 1 ≤ z) → zs.length ≤ zs.sum
  | [], _ => Nat.le_refl _
  | z :: zs, h => by
    have h1 := sum_ge fun y hy => h y (List.mem_cons_of_mem z hy)
    have h2 := h z List.mem_cons_self
    rw [List.sum_cons, List.length_cons]
    omega
theorem RI.many {n T : Nat} {block : List (Option Nat)} {mem : List (List Nat)} {sizes : List Nat} (h : RI n T block mem sizes) : mem.length ≤ T := by
  rw [h.ms, ← h.sum]
  exact sum_ge h.pos
/-- each of the moved gets the new number -/
def mark (m : Nat) (block : List (Option Nat)) (moved : List Nat) : List (Option Nat) := moved.foldl (fun b s => b.set s (some m)) block
theorem mark_len (m : Nat) : ∀ (moved : List Nat) (block : List (Option Nat)), (mark m block moved).length = block.length
  | [], _ => rfl
  | s :: moved, block => by
    show (mark m (block.set s (some m)) moved).length = _
    rw [mark_len m moved, List.length_set]
theorem bv_set {block : List (Option Nat)} {s t : Nat} {v : Option Nat} (h : s < block.length) : bv (block.set s v) t = if t = s then v else bv block t := by
  unfold bv
  rw [List.getD_eq_getElem?_getD, List.getD_eq_getElem?_getD, List.getElem?_set]
  by_cases e : s = t
  · subst e
    rw [if_pos rfl, if_pos h, if_pos rfl]
    rfl
  · rw [if_neg e, if_neg (fun z => e z.symm)]
theorem bv_mark (m : Nat) : ∀ (moved : List Nat) (block : List (Option Nat)), (∀ s ∈ moved, s < block.length) → ∀ t, bv (mark m block moved) t = if t ∈ moved then some m else bv block t
  | [], _, _, t => by
    rw [if_neg List.not_mem_nil]
    rfl
  | s :: moved, block, h, t => by
    show bv (mark m (block.set s (some m)) moved) t = _
    have hs := h s List.mem_cons_self
    rw [bv_mark m moved _ (fun z hz => by rw [List.length_set]; exact h z (List.mem_cons_of_mem s hz)) t, bv_set hs]
    by_cases e1 : t ∈ moved
    · rw [if_pos e1, if_pos (List.mem_cons_of_mem s e1)]
    · rw [if_neg e1]
      by_cases e2 : t = s
      · rw [if_pos e2, if_pos (by rw [e2]; exact List.mem_cons_self)]
      · rw [if_neg e2, if_neg (by rw [List.mem_cons]; exact fun q => q.elim e2 e1)]
theorem bv_lt {block : List (Option Nat)} {s b : Nat} (h : bv block s = some b) : s < block.length := by
  unfold bv at h
  rw [List.getD_eq_getElem?_getD] at h
  rcases Nat.lt_or_ge s block.length with l | l
  · exact l
  · rw [List.getElem?_eq_none l] at h
    cases h
section
variable {n T : Nat} {block : List (Option Nat)} {mem : List (List Nat)} {sizes : List Nat}
theorem getD_at {α : Type} {xs : List α} {i : Nat} {d : α} (h : i < xs.length) : xs.getD i d = xs[i] := by
  rw [List.getD_eq_getElem?_getD, List.getElem?_eq_getElem h]
  rfl
theorem sum_set : ∀ {zs : List Nat} {i v : Nat} (h : i < zs.length), (zs.set i v).sum + zs[i] = zs.sum + v
  | z :: zs, 0, v, _ => by
    rw [List.set_cons_zero, List.sum_cons, List.sum_cons, List.getElem_cons_zero]
    omega
  | z :: zs, i + 1, v, h => by
    have h' : i < zs.length := by
      rw [List.length_cons] at h
      omega
    have := sum_set (v := v) h'
    rw [List.set_cons_succ, List.sum_cons, List.sum_cons, List.getElem_cons_succ]
    omega
theorem RI.szs' (h : RI n T block mem sizes) {b : Nat} (hb : b < mem.length) (hb' : b < sizes.length) : sizes[b] = ((mem.getD b []).filter (isB block b)).length := by
  rw [← h.szs b hb, getD_at hb']
/-- a part of a lot gets a number of its own -/
theorem RI.move (h : RI n T block mem sizes) {old : Nat} {moved : List Nat} (ho : old < mem.length) (nd : moved.Nodup) (hm : ∀ s ∈ moved, bv block s = some old) (h1 : 1 ≤ moved.length) (h2 : moved.length < sizes.getD old 0) :
    RI n T (mark mem.length block moved) (mem ++ [moved]) ((sizes ++ [moved.length]).set old (sizes.getD old 0 - moved.length)) := by
  have hms := h.ms
  have hos : old < sizes.length := by omega
  have hin : ∀ s ∈ moved, s < block.length := fun s hs => bv_lt (hm s hs)
  have bvm := bv_mark mem.length moved block hin
  have gm : ∀ b, b < mem.length → (mem ++ [moved]).getD b [] = mem.getD b [] := fun b hb => by
    rw [List.getD_eq_getElem?_getD, List.getElem?_append_left hb, List.getD_eq_getElem?_getD]
  have gn : (mem ++ [moved]).getD mem.length [] = moved := by
    rw [List.getD_eq_getElem?_getD, List.getElem?_append_right (Nat.le_refl _), Nat.sub_self]
    rfl
  have hz := getD_at (d := 0) hos
  have gs : (sizes ++ [moved.length])[old]'(by rw [List.length_append]; omega) = sizes[old] := List.getElem_append_left hos
  refine ⟨?_, ?_, fun s b e => ?_, fun s b e => ?_, fun b => ?_, fun b hb => ?_, fun z hz' => ?_, ?_, fun b s hs => ?_⟩
  · rw [mark_len, h.lb]
  · rw [List.length_append, List.length_set, List.length_append, hms]
    rfl
  · rw [bvm] at e
    rw [List.length_append, List.length_singleton]
    split at e
    · have := Option.some.inj e
      omega
    · have := h.lt s b e
      omega
  · rw [bvm] at e
    split at e
    · have := Option.some.inj e
      subst this
      rw [gn]
      assumption
    · rw [gm b (h.lt s b e)]
      exact h.sub s b e
  · rcases Nat.lt_trichotomy b mem.length with l | l | l
    · rw [gm b l]
      exact h.nd b
    · rw [l, gn]
      exact nd
    · rw [List.getD_eq_getElem?_getD, List.getElem?_eq_none (by rw [List.length_append, List.length_singleton]; omega)]
      exact List.nodup_nil
  · rw [List.length_append, List.length_singleton] at hb
    by_cases e1 : b = mem.length
    · rw [e1, gn, List.filter_eq_self.mpr (fun s hs => by unfold isB; rw [bvm, if_pos hs]; exact decide_eq_true rfl), List.getD_eq_getElem?_getD, List.getElem?_set_ne (by omega), List.getElem?_append_right (by omega), hms, Nat.sub_self]
      rfl
    · have hb1 : b < mem.length := by omega
      rw [gm b hb1]
      by_cases e2 : b = old
      · subst e2
        have e3 : (mem.getD b []).filter (isB (mark mem.length block moved) b) = ((mem.getD b []).filter (isB block b)).filter fun x => !(decide (x ∈ moved)) := by
          rw [List.filter_filter]
          refine List.filter_congr fun s hs => ?_
          unfold isB
          rw [bvm]
          by_cases z : s ∈ moved
          · rw [if_pos z, decide_eq_true z]
            exact decide_eq_false (fun q => e1 (Option.some.inj q).symm)
          · rw [if_neg z, decide_eq_false z]
            rfl
        have e4 := cnt_out ((h.nd b).filter (isB block b)) nd fun y hy => List.mem_filter.mpr ⟨h.sub y b (hm y hy), decide_eq_true (hm y hy)⟩
        have e5 := h.szs b hb1
        rw [e3, List.getD_eq_getElem?_getD, List.getElem?_set_self (by rw [List.length_append]; omega), Option.getD_some]
        omega
      · have e3 : (mem.getD b []).filter (isB (mark mem.length block moved) b) = (mem.getD b []).filter (isB block b) := List.filter_congr fun s hs => by
          unfold isB
          rw [bvm]
          by_cases z : s ∈ moved
          · rw [if_pos z, decide_eq_false (fun q => e1 (Option.some.inj q).symm), decide_eq_false (fun q => e2 (Option.some.inj (q.symm.trans (hm s z))))]
          · rw [if_neg z]
        rw [e3, ← h.szs b hb1, List.getD_eq_getElem?_getD, List.getElem?_set_ne (fun q => e2 q.symm), List.getElem?_append_left (by omega), List.getD_eq_getElem?_getD]
  · rcases List.mem_or_eq_of_mem_set hz' with q | q
    · rcases List.mem_append.mp q with q | q
      · exact h.pos z q
      · rw [List.mem_singleton.mp q]
        exact h1
    · omega
  · have e1 := sum_set (zs := sizes ++ [moved.length]) (v := sizes.getD old 0 - moved.length) (show old < (sizes ++ [moved.length]).length by rw [List.length_append]; omega)
    rw [gs, List.sum_append] at e1
    have e2 := h.sum
    have e3 : [moved.length].sum = moved.length := by simp
    omega
  · rcases Nat.lt_trichotomy b mem.length with l | l | l
    · rw [gm b l] at hs
      exact h.inn b s hs
    · rw [l, gn] at hs
      rw [← h.lb]
      exact hin s hs
    · rw [List.getD_eq_getElem?_getD, List.getElem?_eq_none (by rw [List.length_append, List.length_singleton]; omega)] at hs
      exact absurd hs List.not_mem_nil
/-- those that went away from a lot are dropped from its list -/
theorem RI.clean (h : RI n T block mem sizes) {b : Nat} (hb : b < mem.length) : RI n T block (mem.set b ((mem.getD b []).filter (isB block b))) sizes := by
  have g : ∀ c, (mem.set b ((mem.getD b []).filter (isB block b))).getD c [] = if c = b then (mem.getD b []).filter (isB block b) else mem.getD c [] := fun c => by
    rw [List.getD_eq_getElem?_getD]
    by_cases e : c = b
    · rw [e, List.getElem?_set_self hb, if_pos rfl]
      rfl
    · rw [List.getElem?_set_ne (fun z => e z.symm), if_neg e, List.getD_eq_getElem?_getD]
  refine ⟨h.lb, by rw [List.length_set]; exact h.ms, fun s c e => by rw [List.length_set]; exact h.lt s c e, fun s c e => ?_, fun c => ?_, fun c hc => ?_, h.pos, h.sum, fun c s hs => ?_⟩
  · rw [g]
    split
    · rename_i q
      rw [q] at e
      exact List.mem_filter.mpr ⟨h.sub s b e, decide_eq_true e⟩
    · exact h.sub s c e
  · rw [g]
    split
    · exact (h.nd b).filter _
    · exact h.nd c
  · rw [List.length_set] at hc
    rw [h.szs c hc, g]
    split
    · rename_i q
      rw [q, List.filter_filter]
      simp
    · rfl
  · rw [g] at hs
    split at hs
    · exact h.inn b s (List.mem_filter.mp hs).1
    · exact h.inn c s hs
end
/-! ### splitting, without the lists -/
/-- in S just one of the two -/
def Oddly (S : Nat → Prop) (p q : Nat) : Prop := (S p ∧ ¬ S q) ∨ (¬ S p ∧ S q)
/-- two of one lot that c leads to unlike lots: one of these waits, or c has still to be looked at -/
def Inv (rs : Rws) (bl : Nat → Option Nat) (wt : Nat → Prop) (S : Nat → Prop) (c0 : Nat) : Prop :=
  ∀ (s t b c p q bp bq : Nat), bl s = some b → bl t = some b → nx rs s c = some p → nx rs t c = some q → bl p = some bp → bl q = some bq → bp ≠ bq → wt bp ∨ wt bq ∨ (c0 ≤ c ∧ Oddly S p q)
/-- states with the same words are in one lot -/
def Sound (rs : Rws) (es : List Bool) (bl : Nat → Option Nat) : Prop := ∀ (s t b b' : Nat), bl s = some b → bl t = some b' → Eqv rs es rs es s t → b = b'
/-- two of one lot end alike, and are led to lots alike -/
def Alike (rs : Rws) (es : List Bool) (bl : Nat → Option Nat) : Prop := ∀ (s t b : Nat), bl s = some b → bl t = some b → es.getD s false = es.getD t false ∧ ∀ c p b', nx rs s c = some p → bl p = some b' → ∃ q b2, nx rs t c = some q ∧ bl q = some b2
/-- bl' is bl but for the moved, which get m -/
structure Moved (bl bl' : Nat → Option Nat) (old m : Nat) (M : Nat → Prop) : Prop where
  all : ∀ s, M s → bl s = some old
  new : ∀ s, bl s ≠ some m
  yes : ∀ s, M s → bl' s = some m
  no : ∀ s, ¬ M s → bl' s = bl s
section
variable {rs : Rws} {es : List Bool} {bl bl' : Nat → Option Nat} {wt wt' S M : Nat → Prop} {old m c0 : Nat}
theorem Moved.of (h : Moved bl bl' old m M) {s b : Nat} (e : bl' s = some b) : ∃ b0, bl s = some b0 ∧ ((M s ∧ b0 = old ∧ b = m) ∨ (¬ M s ∧ b0 = b ∧ b ≠ m)) := by
  by_cases z : M s
  · have := h.yes s z
    rw [this] at e
    exact ⟨old, h.all s z, .inl ⟨z, rfl, (Option.some.inj e).symm⟩⟩
  · rw [h.no s z] at e
    exact ⟨b, e, .inr ⟨z, rfl, fun q => h.new s (q ▸ e)⟩⟩
theorem Moved.dom (h : Moved bl bl' old m M) (s : Nat) : (∃ b, bl' s = some b) ↔ ∃ b, bl s = some b := by
  by_cases z : M s
  · exact ⟨fun _ => ⟨_, h.all s z⟩, fun _ => ⟨_, h.yes s z⟩⟩
  · rw [h.no s z]
theorem Moved.one (h : Moved bl bl' old m M) {s t b : Nat} (e : bl' s = some b) (f : bl' t = some b) : ∃ b0, bl s = some b0 ∧ bl t = some b0 ∧ (M s ↔ M t) := by
  obtain ⟨b1, h1, g1⟩ := h.of e
  obtain ⟨b2, h2, g2⟩ := h.of f
  rcases g1 with ⟨m1, x1, y1⟩ | ⟨m1, x1, y1⟩
  · rcases g2 with ⟨m2, x2, y2⟩ | ⟨m2, x2, y2⟩
    · exact ⟨old, x1 ▸ h1, x2 ▸ h2, ⟨fun _ => m2, fun _ => m1⟩⟩
    · exact absurd y1 y2
  · rcases g2 with ⟨m2, x2, y2⟩ | ⟨m2, x2, y2⟩
    · exact absurd y2 y1
    · exact ⟨b, x1 ▸ h1, x2 ▸ h2, ⟨fun q => absurd q m1, fun q => absurd q m2⟩⟩
theorem Inv.move (h : Inv rs bl wt S c0) (mv : Moved bl bl' old m M) (w1 : wt old → wt' old ∧ wt' m) (w2 : wt' old ∨ wt' m) (w3 : ∀ b, b ≠ old → b ≠ m → wt b → wt' b) (w4 : ¬ wt m) : Inv rs bl' wt' S c0 := by
  intro s t b c p q bp bq es et hp hq ep eq ne
  obtain ⟨b0, h1, h2, _⟩ := mv.one es et
  obtain ⟨b1, h3, g3⟩ := mv.of ep
  obtain ⟨b2, h4, g4⟩ := mv.of eq
  have up : ∀ {y z x : Nat}, wt y → ((M x ∧ y = old ∧ z = m) ∨ (¬ M x ∧ y = z ∧ z ≠ m)) → wt' z := fun {y z x} hw g => by
    rcases g with ⟨_, e1, e2⟩ | ⟨_, e1, e2⟩
    · rw [e2]
      exact (w1 (e1 ▸ hw)).2
    · rw [← e1]
      by_cases q : y = old
      · rw [q]
        exact (w1 (q ▸ hw)).1
      · exact w3 _ q (by rw [e1]; exact e2) hw
  by_cases z : b1 = b2
  · have key : wt' bp ∨ wt' bq := by
      rcases g3 with ⟨m1, x1, y1⟩ | ⟨m1, x1, y1⟩
      · rcases g4 with ⟨m2, x2, y2⟩ | ⟨m2, x2, y2⟩
        · exact absurd (y1.trans y2.symm) ne
        · rw [y1, ← x2, ← z, x1]
          exact w2.symm
      · rcases g4 with ⟨m2, x2, y2⟩ | ⟨m2, x2, y2⟩
        · rw [y2, ← x1, z, x2]
          exact w2
        · exact absurd (x1.symm.trans (z.trans x2)) ne
    rcases key with k | k
    · exact .inl k
    · exact .inr (.inl k)
  · rcases h s t b0 c p q b1 b2 h1 h2 hp hq h3 h4 z with k | k | k
    · exact .inl (up k g3)
    · exact .inr (.inl (up k g4))
    · exact .inr (.inr k)
theorem Inv.start {x : Nat} {L : Nat} {S0 : Nat → Prop} (h : Inv rs bl wt S0 L) (wide : ∀ r ∈ rs, r.length = L) (hS : ∀ s, S s ↔ bl s = some x) (hw : ∀ b, wt b → b ≠ x → wt' b) : Inv rs bl wt' S 0 := by
  intro s t b c p q bp bq es et hp hq ep eq ne
  by_cases z1 : bp = x
  · refine .inr (.inr ⟨Nat.zero_le _, .inl ⟨(hS p).mpr (z1 ▸ ep), fun k => ?_⟩⟩)
    have := (hS q).mp k
    rw [eq] at this
    exact ne (z1.trans (Option.some.inj this).symm)
  · by_cases z2 : bq = x
    · refine .inr (.inr ⟨Nat.zero_le _, .inr ⟨fun k => ?_, (hS q).mpr (z2 ▸ eq)⟩⟩)
      have := (hS p).mp k
      rw [ep] at this
      exact z1 (Option.some.inj this)
    · rcases h s t b c p q bp bq es et hp hq ep eq ne with k | k | k
      · exact .inl (hw _ k z1)
      · exact .inr (.inl (hw _ k z2))
      · have := (nx_lt wide hp).2.1
        omega
/-- no two of one lot are told apart by being led into S -/
def Sep (bl : Nat → Option Nat) (M : Nat → Prop) : Prop := ∀ (s t b : Nat), bl s = some b → bl t = some b → (M s ↔ M t)
theorem Inv.letter (h : Inv rs bl wt S c0) (hM : ∀ (s p b b' : Nat), bl s = some b → nx rs s c0 = some p → bl p = some b' → (M s ↔ S p)) (sep : Sep bl M) : Inv rs bl wt S (c0 + 1) := by
  intro s t b c p q bp bq es et hp hq ep eq ne
  rcases h s t b c p q bp bq es et hp hq ep eq ne with k | k | ⟨k1, k2⟩
  · exact .inl k
  · exact .inr (.inl k)
  · by_cases z : c = c0
    · subst z
      have e1 := hM s p b bp es hp ep
      have e2 := hM t q b bq et hq eq
      have e3 := sep s t b es et
      exfalso
      rcases k2 with ⟨k, k'⟩ | ⟨k, k'⟩
      · exact k' (e2.mp (e3.mp (e1.mpr k)))
      · exact k (e1.mp (e3.mpr (e2.mpr k')))
    · exact .inr (.inr ⟨by omega, k2⟩)
/-- a lot of which no two ever were the same, cut by what is the same for the same -/
theorem Sound.move (h : Sound rs es bl) (mv : Moved bl bl' old m M) (hM : ∀ (s t : Nat), bl s = some old → bl t = some old → Eqv rs es rs es s t → M s → M t) : Sound rs es bl' := by
  intro s t b b' es' et e
  obtain ⟨b1, h1, g1⟩ := mv.of es'
  obtain ⟨b2, h2, g2⟩ := mv.of et
  have eb := h s t b1 b2 h1 h2 e
  rcases g1 with ⟨m1, x1, y1⟩ | ⟨m1, x1, y1⟩
  · rcases g2 with ⟨m2, x2, y2⟩ | ⟨m2, x2, y2⟩
    · exact y1.trans y2.symm
    · exact absurd (hM s t (by rw [h1, x1]) (by rw [h2, ← eb, x1]) e m1) m2
  · rcases g2 with ⟨m2, x2, y2⟩ | ⟨m2, x2, y2⟩
    · exact absurd (hM t s (by rw [h2, x2]) (by rw [h1, eb, x2]) e.symm m2) m1
    · exact x1.symm.trans (eb.trans x2)
theorem Alike.move (h : Alike rs es bl) (mv : Moved bl bl' old m M) : Alike rs es bl' := by
  intro s t b e1 e2
  obtain ⟨b0, h1, h2, _⟩ := mv.one e1 e2
  obtain ⟨k1, k2⟩ := h s t b0 h1 h2
  refine ⟨k1, fun c p b' hp hb => ?_⟩
  obtain ⟨b3, hb3⟩ := (mv.dom p).mp ⟨b', hb⟩
  obtain ⟨q, b4, hq, hb4⟩ := k2 c p b3 hp hb3
  obtain ⟨b5, hb5⟩ := (mv.dom q).mpr ⟨b4, hb4⟩
  exact ⟨q, b5, hq, hb5⟩
/-- nothing waits: two of one lot have the same words -/
theorem inv_done {S0 : Nat → Prop} {L : Nat} (h : Inv rs bl wt S0 L) (wide : ∀ r ∈ rs, r.length = L) (al : Alike rs es bl) (nw : ∀ b, ¬ wt b) (on : ∀ (s b c t : Nat), bl s = some b → Way rs es s c t → ∃ b', bl t = some b') : ∀ (w : List Nat) (s t b : Nat), bl s = some b → bl t = some b → acc rs es w s = true → acc rs es w t = true
  | [], s, t, b, hs, ht, e => by
    show es.getD t false = true
    rw [← (al s t b hs ht).1]
    exact e
  | c :: w, s, t, b, hs, ht, e => by
    cases ep : nx rs s c with
    | none =>
      rw [acc_none ep] at e
      cases e
    | some p =>
      rw [acc_cons ep] at e
      obtain ⟨bp, hbp⟩ := on s b c p hs ⟨ep, w, e⟩
      obtain ⟨q, bq, eq, hbq⟩ := (al s t b hs ht).2 c p bp ep hbp
      rw [acc_cons eq]
      by_cases z : bp = bq
      · exact inv_done h wide al nw on w p q bp hbp (z ▸ hbq) e
      · rcases h s t b c p q bp bq hs ht ep eq hbp hbq z with k | k | ⟨k, _⟩
        · exact absurd k (nw _)
        · exact absurd k (nw _)
        · have := (nx_lt wide ep).2.1
          omega
/-- so the lots are right -/
theorem pb_done {S0 : Nat → Prop} {L : Nat} (h : Inv rs bl wt S0 L) (wide : ∀ r ∈ rs, r.length = L) (tgt : ∀ r ∈ rs, ∀ t, some t ∈ r → t < rs.length) (al : Alike rs es bl) (so : Sound rs es bl) (nw : ∀ b, ¬ wt b) (inn : ∀ (s b : Nat), bl s = some b → s < rs.length ∧ Live rs es s)
    (on : ∀ (s b c t : Nat), bl s = some b → Way rs es s c t → ∃ b', bl t = some b') : PB rs es L bl where
  wide := wide
  tgt := tgt
  inn := inn
  same := fun s t b hs => by
    refine ⟨fun ht => ⟨⟨b, ht⟩, fun w => ?_⟩, fun ⟨⟨b', hb'⟩, e⟩ => ?_⟩
    · have h1 := inv_done h wide al nw on w s t b hs ht
      have h2 := inv_done h wide al nw on w t s b ht hs
      cases e1 : acc rs es w s with
      | true => exact (h1 e1).symm
      | false =>
        cases e2 : acc rs es w t with
        | false => rfl
        | true =>
          rw [h2 e2] at e1
          cases e1
    · rw [so s t b b' hs hb' e]
      exact hb'
  on := on
end
/-! ### splitting, with the lists -/
def wv (wait : List Bool) (b : Nat) : Prop := wait.getD b false = true
structure TI (rs : Rws) (es : List Bool) (R : Nat → Prop) (T : Nat) (block : List (Option Nat)) (mem : List (List Nat)) (sizes : List Nat) (wait : List Bool) (queue : List Nat) (k : Int) (S : Nat → Prop) (c0 : Nat) : Prop where
  ri : RI rs.length T block mem sizes
  wl : wait.length = mem.length
  qn : queue.Nodup
  qw : ∀ b, b ∈ queue ↔ wv wait b
  ql : (queue.length : Int) = mem.length + k
  inv : Inv rs (bv block) (wv wait) S c0
  so : Sound rs es (bv block)
  al : Alike rs es (bv block)
  dom : ∀ s, (∃ b, bv block s = some b) ↔ (R s ∧ Live rs es s)
/-- what was touched, by lots -/
structure TG (P0 : Nat → Option Nat) (touched : List (Nat × List Nat)) (srcs : List Nat) : Prop where
  nd : (touched.map Prod.fst).Nodup
  els : ∀ k l, (k, l) ∈ touched → l = srcs.filter (fun s => decide (P0 s = some k)) ∧ l ≠ []
  all : ∀ s ∈ srcs, ∀ k, P0 s = some k → k ∈ touched.map Prod.fst
structure MI (P0 : Nat → Option Nat) (touched : List (Nat × List Nat)) (srcs : List Nat) (i : Nat) (bl : Nat → Option Nat) : Prop where
  ref : ∀ (s t b : Nat), bl s = some b → bl t = some b → P0 s = P0 t
  sep : ∀ (s t b k : Nat), bl s = some b → bl t = some b → P0 s = some k → (∀ (j : Nat) (l : List Nat), i ≤ j → touched[j]? ≠ some (k, l)) → (s ∈ srcs ↔ t ∈ srcs)
  rest : ∀ (j k : Nat) (l : List Nat), i ≤ j → touched[j]? = some (k, l) → ∀ s, P0 s = some k ↔ bl s = some k
section
variable {P0 bl : Nat → Option Nat} {touched : List (Nat × List Nat)} {srcs : List Nat}
theorem tg_start : TG P0 [] [] := ⟨List.nodup_nil, fun _ _ h => absurd h List.not_mem_nil, fun _ h => absurd h List.not_mem_nil⟩
/-- a first one of its lot -/
theorem TG.fresh (h : TG P0 touched srcs) {s k : Nat} (hs : P0 s = some k) (hk : k ∉ touched.map Prod.fst) : TG P0 (touched ++ [(k, [s])]) (srcs ++ [s]) where
  nd := by
    rw [List.map_append, List.nodup_append]
    refine ⟨h.nd, List.nodup_cons.mpr ⟨List.not_mem_nil, List.nodup_nil⟩, fun x hx y hy => ?_⟩
    rw [List.mem_singleton.mp hy]
    exact fun e => hk ((show x = k from e) ▸ hx)
  els := fun k' l hm => by
    rw [List.filter_append]
    rcases List.mem_append.mp hm with hm | hm
    · obtain ⟨e, ne⟩ := h.els k' l hm
      have : k' ≠ k := fun z => hk (List.mem_map.mpr ⟨(k', l), hm, z⟩)
      rw [List.filter_cons, if_neg (by rw [decide_eq_true_eq, hs]; exact fun z => this (Option.some.inj z).symm), List.filter_nil, List.append_nil]
      exact ⟨e, ne⟩
    · cases List.mem_singleton.mp hm
      have e : srcs.filter (fun s => decide (P0 s = some k)) = [] := List.filter_eq_nil_iff.mpr fun x hx z => hk (h.all x hx k (of_decide_eq_true z))
      rw [e, List.filter_cons, if_pos (decide_eq_true hs), List.filter_nil]
      exact ⟨rfl, List.cons_ne_nil _ _⟩
  all := fun x hx k' e => by
    rw [List.map_append]
    rcases List.mem_append.mp hx with hx | hx
    · exact List.mem_append.mpr (.inl (h.all x hx k' e))
    · rw [List.mem_singleton.mp hx, hs] at e
      cases e
      exact List.mem_append.mpr (.inr List.mem_cons_self)
/-- one more of a lot that was touched -/
theorem TG.more (h : TG P0 touched srcs) {s k i : Nat} {l : List Nat} (hs : P0 s = some k) (hi : touched[i]? = some (k, l)) : TG P0 (touched.set i (k, l ++ [s])) (srcs ++ [s]) where
  nd := by
    have : (touched.set i (k, l ++ [s])).map Prod.fst = touched.map Prod.fst := by
      rw [List.map_set]
      have hl := (List.getElem?_eq_some_iff.mp hi).1
      refine List.ext_getElem? fun j => ?_
      rw [List.getElem?_set]
      split
      · rename_i e
        subst e
        rw [if_pos (by rw [List.length_map]; exact hl), List.getElem?_map, hi]
        rfl
      · rfl
    rw [this]
    exact h.nd
  els := fun k' l' hm => by
    have hl := (List.getElem?_eq_some_iff.mp hi).1
    have one : ∀ j x, touched[j]? = some (k, x) → j = i := fun j x hj => by
      have lj := (List.getElem?_eq_some_iff.mp hj).1
      have := (List.getElem?_inj (by rw [List.length_map]; exact lj) h.nd).mp (show (touched.map Prod.fst)[j]? = (touched.map Prod.fst)[i]? by rw [List.getElem?_map, List.getElem?_map, hj, hi]; rfl)
      exact this
    obtain ⟨e0, n0⟩ := h.els k l (List.mem_of_getElem? hi)
    rw [List.filter_append]
    obtain ⟨j, hj⟩ := List.mem_iff_getElem?.mp hm
    rw [List.getElem?_set] at hj
    split at hj
    · cases hj
      rw [List.filter_cons, if_pos (decide_eq_true hs), List.filter_nil, ← e0]
      exact ⟨rfl, fun z => by cases List.append_eq_nil_iff.mp z with | intro _ z2 => cases z2⟩
    · rename_i ne
      have hk : k' ≠ k := fun z => ne (one j l' (z ▸ hj)).symm
      obtain ⟨e1, n1⟩ := h.els k' l' (List.mem_of_getElem? hj)
      rw [List.filter_cons, if_neg (by rw [decide_eq_true_eq, hs]; exact fun z => hk (Option.some.inj z).symm), List.filter_nil, List.append_nil]
      exact ⟨e1, n1⟩
  all := fun x hx k' e => by
    have hl := (List.getElem?_eq_some_iff.mp hi).1
    have eq : (touched.set i (k, l ++ [s])).map Prod.fst = touched.map Prod.fst := by
      rw [List.map_set]
      refine List.ext_getElem? fun j => ?_
      rw [List.getElem?_set]
      split
      · rename_i e
        subst e
        rw [if_pos (by rw [List.length_map]; exact hl), List.getElem?_map, hi]
        rfl
      · rfl
    rw [eq]
    rcases List.mem_append.mp hx with hx | hx
    · exact h.all x hx k' e
    · rw [List.mem_singleton.mp hx, hs] at e
      cases e
      exact List.mem_map.mpr ⟨(k, l), List.mem_of_getElem? hi, rfl⟩
theorem mi_start (g : TG P0 touched srcs) (dom : ∀ s ∈ srcs, ∃ k, P0 s = some k) : MI P0 touched srcs 0 P0 where
  ref := fun s t b h1 h2 => h1.trans h2.symm
  sep := fun s t b k h1 h2 h3 no => by
    have nk : k ∉ touched.map Prod.fst := fun q => by
      obtain ⟨⟨k', l⟩, hm, e⟩ := List.mem_map.mp q
      obtain ⟨j, hj⟩ := List.mem_iff_getElem?.mp hm
      have e' : k' = k := e
      subst e'
      exact no j l (Nat.zero_le _) hj
    have ne : ∀ x, P0 x = some k → x ∉ srcs := fun x hx hm => nk (g.all x hm k hx)
    have : P0 t = some k := by rw [h2, ← h1, h3]
    exact ⟨fun q => absurd q (ne s h3), fun q => absurd q (ne t this)⟩
  rest := fun _ _ _ _ _ _ => Iff.rfl
theorem keys_ne (g : TG P0 touched srcs) {i j k k' : Nat} {l l' : List Nat} (hi : touched[i]? = some (k, l)) (hj : touched[j]? = some (k', l')) (ne : i ≠ j) : k ≠ k' := fun e => by
  subst e
  have li := (List.getElem?_eq_some_iff.mp hi).1
  exact ne ((List.getElem?_inj (by rw [List.length_map]; exact li) g.nd).mp (show (touched.map Prod.fst)[i]? = (touched.map Prod.fst)[j]? by rw [List.getElem?_map, List.getElem?_map, hi, hj]; rfl))
/-- a lot of which all were touched stays -/
theorem MI.stay (h : MI P0 touched srcs i bl) (g : TG P0 touched srcs) {old : Nat} {l : List Nat} (hi : touched[i]? = some (old, l)) (full : ∀ s, bl s = some old → s ∈ srcs) : MI P0 touched srcs (i + 1) bl where
  ref := h.ref
  sep := fun s t b k h1 h2 h3 no => by
    by_cases z : k = old
    · subst z
      have r := h.rest i k l (Nat.le_refl _) hi
      have h4 : P0 t = some k := by rw [← h.ref s t b h1 h2, h3]
      exact ⟨fun _ => full t ((r t).mp h4), fun _ => full s ((r s).mp h3)⟩
    · refine h.sep s t b k h1 h2 h3 fun j l' hj e => ?_
      by_cases y : j = i
      · subst y
        rw [hi] at e
        cases e
        exact z rfl
      · exact no j l' (by omega) e
  rest := fun j k l' hj => h.rest j k l' (by omega)
/-- a lot of which some were touched is cut -/
theorem MI.cut {bl' : Nat → Option Nat} {m : Nat} (h : MI P0 touched srcs i bl) (g : TG P0 touched srcs) {old : Nat} {l : List Nat} (hi : touched[i]? = some (old, l)) (mv : Moved bl bl' old m (· ∈ l)) (hm : ∀ (j k : Nat) (l' : List Nat), i ≤ j → touched[j]? = some (k, l') → k ≠ m) : MI P0 touched srcs (i + 1) bl' where
  ref := fun s t b h1 h2 => by
    obtain ⟨b0, e1, e2, _⟩ := mv.one h1 h2
    exact h.ref s t b0 e1 e2
  sep := fun s t b k h1 h2 h3 no => by
    obtain ⟨b0, e1, e2, e3⟩ := mv.one h1 h2
    by_cases z : k = old
    · subst z
      have h4 : P0 t = some k := by rw [← h.ref s t b0 e1 e2, h3]
      have el := (g.els k l (List.mem_of_getElem? hi)).1
      have me : ∀ x, P0 x = some k → (x ∈ srcs ↔ x ∈ l) := fun x hx => by
        rw [el, List.mem_filter]
        exact ⟨fun q => ⟨q, decide_eq_true hx⟩, fun q => q.1⟩
      rw [me s h3, me t h4]
      exact e3
    · refine h.sep s t b0 k e1 e2 h3 fun j l' hj e => ?_
      by_cases y : j = i
      · subst y
        rw [hi] at e
        cases e
        exact z rfl
      · exact no j l' (by omega) e
  rest := fun j k l' hj e s => by
    have hk := keys_ne g hi e (by omega)
    have r := h.rest j k l' (by omega) e s
    rw [r]
    by_cases z : s ∈ l
    · rw [mv.all s z, mv.yes s z]
      exact ⟨fun q => absurd (Option.some.inj q) hk, fun q => absurd (Option.some.inj q).symm (hm j k l' (by omega) e)⟩
    · rw [mv.no s z]
theorem MI.done (h : MI P0 touched srcs touched.length bl) (dom : ∀ s b, bl s = some b → ∃ k, P0 s = some k) : Sep bl (· ∈ srcs) := fun s t b h1 h2 => by
  obtain ⟨k, hk⟩ := dom s b h1
  refine h.sep s t b k h1 h2 hk fun j l hj e => ?_
  have := (List.getElem?_eq_some_iff.mp e).1
  omega
end
section
variable {rs : Rws} {es : List Bool} {R : Nat → Prop} {T : Nat} {block : List (Option Nat)} {mem : List (List Nat)} {sizes : List Nat} {wait : List Bool} {queue : List Nat} {k : Int} {S : Nat → Prop} {c0 : Nat}
theorem moved_mark (h : RI rs.length T block mem sizes) {old : Nat} {l : List Nat} (hl : ∀ s ∈ l, bv block s = some old) : Moved (bv block) (bv (mark mem.length block l)) old mem.length (· ∈ l) := by
  have b := bv_mark mem.length l block fun s hs => bv_lt (hl s hs)
  refine ⟨hl, fun s e => ?_, fun s hs => ?_, fun s hs => ?_⟩
  · have := h.lt s _ e
    omega
  · rw [b, if_pos hs]
  · rw [b, if_neg hs]
theorem wv_lt {b : Nat} (h : wv wait b) : b < wait.length := by
  unfold wv at h
  rw [List.getD_eq_getElem?_getD] at h
  rcases Nat.lt_or_ge b wait.length with l | l
  · exact l
  · rw [List.getElem?_eq_none l] at h
    cases h
theorem wv_set {c : Nat} (hc : c ≤ wait.length) (b : Nat) : wv ((wait ++ [false]).set c true) b ↔ b = c ∨ wv wait b := by
  unfold wv
  rw [List.getD_eq_getElem?_getD, List.getD_eq_getElem?_getD, List.getElem?_set]
  by_cases e : c = b
  · subst e
    rw [if_pos rfl, if_pos (by rw [List.length_append, List.length_singleton]; omega)]
    exact ⟨fun _ => .inl rfl, fun _ => rfl⟩
  · rw [if_neg e]
    have : (wait ++ [false])[b]?.getD false = wait[b]?.getD false := by
      rcases Nat.lt_trichotomy b wait.length with l | l | l
      · rw [List.getElem?_append_left l]
      · subst l
        rw [List.getElem?_append_right (Nat.le_refl _), Nat.sub_self, List.getElem?_eq_none (Nat.le_refl _)]
        rfl
      · rw [List.getElem?_eq_none (by rw [List.length_append, List.length_singleton]; omega), List.getElem?_eq_none (by omega)]
    rw [this]
    exact ⟨.inr, fun q => q.resolve_left fun z => e z.symm⟩
/-- a cut, and one of both that waits -/
theorem TI.cut (h : TI rs es R T block mem sizes wait queue k S c0) {old c : Nat} {l : List Nat} (ho : old < mem.length) (nd : l.Nodup) (hl : ∀ s ∈ l, bv block s = some old) (h1 : 1 ≤ l.length) (h2 : l.length < sizes.getD old 0)
    (hM : ∀ (s t : Nat), bv block s = some old → bv block t = some old → Eqv rs es rs es s t → s ∈ l → t ∈ l) (hc : c = mem.length ∨ (c = old ∧ ¬ wv wait old)) :
    TI rs es R T (mark mem.length block l) (mem ++ [l]) ((sizes ++ [l.length]).set old (sizes.getD old 0 - l.length)) ((wait ++ [false]).set c true) (queue ++ [c]) k S c0 := by
  have mv := moved_mark h.ri hl
  have wl := h.wl
  have cl : c ≤ wait.length := by omega
  have nm : ¬ wv wait mem.length := fun q => by
    have := wv_lt q
    omega
  have nc : ¬ wv wait c := by
    rcases hc with rfl | ⟨rfl, q⟩
    · exact nm
    · exact q
  have ws := wv_set cl
  refine ⟨h.ri.move ho nd hl h1 h2, ?_, ?_, fun b => ?_, ?_, h.inv.move mv (fun q => ?_) ?_ (fun b _ _ q => (ws b).mpr (.inr q)) nm, h.so.move mv hM, h.al.move mv, fun s => ?_⟩
  · rw [List.length_set, List.length_append, List.length_append, wl]
    rfl
  · rw [List.nodup_append]
    refine ⟨h.qn, List.nodup_cons.mpr ⟨List.not_mem_nil, List.nodup_nil⟩, fun x hx y hy e => ?_⟩
    rw [List.mem_singleton.mp hy] at e
    subst e
    exact nc ((h.qw x).mp hx)
  · rw [ws, List.mem_append, h.qw, List.mem_singleton]
    exact or_comm
  · have := h.ql
    rw [List.length_append, List.length_append, List.length_singleton, List.length_singleton]
    omega
  · refine ⟨(ws old).mpr (.inr q), (ws _).mpr (.inl ?_)⟩
    rcases hc with e | ⟨_, e⟩
    · exact e.symm
    · exact absurd q e
  · rcases hc with e | ⟨e, _⟩
    · exact .inr ((ws _).mpr (.inl e.symm))
    · exact .inl ((ws _).mpr (.inl e.symm))
  · rw [mv.dom, h.dom]
/-- a lot that waits is taken -/
theorem TI.take {x L : Nat} {S0 : Nat → Prop} (h : TI rs es R T block mem sizes wait (queue ++ [x]) k S0 L) (wide : ∀ r ∈ rs, r.length = L) (hx : x < mem.length) : TI rs es R T block (mem.set x ((mem.getD x []).filter (isB block x))) sizes (wait.set x false) queue (k - 1) (fun s => bv block s = some x) 0 := by
  have wl := h.wl
  have ws : ∀ b, wv (wait.set x false) b ↔ (b ≠ x ∧ wv wait b) := fun b => by
    unfold wv
    rw [List.getD_eq_getElem?_getD, List.getD_eq_getElem?_getD, List.getElem?_set]
    by_cases e : x = b
    · subst e
      rw [if_pos rfl, if_pos (by omega)]
      exact ⟨(fun q => by cases q), fun q => absurd rfl q.1⟩
    · rw [if_neg e]
      exact ⟨fun q => ⟨fun z => e z.symm, q⟩, fun q => q.2⟩
  obtain ⟨n1, n2, n3⟩ := List.nodup_append.mp h.qn
  refine ⟨h.ri.clean hx, by rw [List.length_set, List.length_set]; exact wl, n1, fun b => ?_, ?_, h.inv.start wide (fun _ => Iff.rfl) fun b q z => (ws b).mpr ⟨z, q⟩, h.so, h.al, h.dom⟩
  · have := h.qw b
    rw [List.mem_append, List.mem_singleton] at this
    rw [ws, ← this]
    exact ⟨fun q => ⟨fun z => n3 b q x List.mem_cons_self z, .inl q⟩, fun q => q.2.resolve_right q.1⟩
  · have := h.ql
    rw [List.length_append, List.length_singleton] at this
    rw [List.length_set]
    omega
theorem TI.letter (h : TI rs es R T block mem sizes wait queue k S c0) {srcs : List Nat} (hM : ∀ (s p b b' : Nat), bv block s = some b → nx rs s c0 = some p → bv block p = some b' → (s ∈ srcs ↔ S p)) (sep : Sep (bv block) (· ∈ srcs)) : TI rs es R T block mem sizes wait queue k S (c0 + 1) :=
  ⟨h.ri, h.wl, h.qn, h.qw, h.ql, h.inv.letter hM sep, h.so, h.al, h.dom⟩
theorem TI.done {L : Nat} (h : TI rs es R T block mem sizes wait [] k S L) (wide : ∀ r ∈ rs, r.length = L) (tgt : ∀ r ∈ rs, ∀ t, some t ∈ r → t < rs.length) (rl : ∀ s, R s → s < rs.length) (ron : ∀ s c t, R s → nx rs s c = some t → R t) : PB rs es L (bv block) := by
  refine pb_done h.inv wide tgt h.al h.so (fun b q => ?_) (fun s b e => ?_) fun s b c t e w => ?_
  · exact absurd ((h.qw b).mpr q) List.not_mem_nil
  · have := (h.dom s).mp ⟨b, e⟩
    exact ⟨rl s this.1, this.2⟩
  · have := (h.dom s).mp ⟨b, e⟩
    exact (h.dom t).mpr ⟨ron s c t this.1 w.1, w.2⟩
end
/-! ### the first lots -/
def b2n (b : Bool) : Nat := if b = true then 1 else 0
def signOf (a : Nat) (xs : List Bool) : Nat := xs.foldl (fun a b => 2 * a + b2n b) a
theorem b2n_le (b : Bool) : b2n b ≤ 1 := by
  cases b <;> decide
theorem b2n_inj {a b : Bool} (h : b2n a = b2n b) : a = b := by
  cases a <;> cases b
  · rfl
  · exact absurd h (by decide)
  · exact absurd h (by decide)
  · rfl
theorem sign_inj : ∀ {xs ys : List Bool} {a b : Nat}, xs.length = ys.length → signOf a xs = signOf b ys → a = b ∧ xs = ys
  | [], [], _, _, _, h => ⟨h, rfl⟩
  | [], _ :: _, _, _, l, _ => by cases l
  | _ :: _, [], _, _, l, _ => by cases l
  | x :: xs, y :: ys, a, b, l, h => by
    obtain ⟨h1, h2⟩ := sign_inj (xs := xs) (ys := ys) (a := 2 * a + b2n x) (b := 2 * b + b2n y) (Nat.succ.inj l) h
    have lx := b2n_le x
    have ly := b2n_le y
    have hx : b2n x = b2n y := by omega
    exact ⟨by omega, by rw [b2n_inj hx, h2]⟩
def lvO (lv : Nat → Bool) : Option Nat → Bool
  | none => false
  | some t => lv t
def bitsOf (rs : Rws) (lv : Nat → Bool) (s : Nat) : List Bool := (rs.getD s []).map (lvO lv)
def sgS (rs : Rws) (es : List Bool) (lv : Nat → Bool) (s : Nat) : Nat := signOf (b2n (es.getD s false)) (bitsOf rs lv s)
/-- states put into lots by their signs -/
structure FB (n : Nat) (sg : Nat → Nat) (ds : List Nat) (block : List (Option Nat)) (nums : List Nat) (mem : List (List Nat)) : Prop where
  lb : block.length = n
  bl : ∀ (s b : Nat), bv block s = some b ↔ (s ∈ ds ∧ nums[b]? = some (sg s))
  lm : mem.length = nums.length
  nd : nums.Nodup
  nds : ds.Nodup
  ms : ∀ (b g : Nat), nums[b]? = some g → mem[b]? = some (ds.filter fun s => decide (sg s = g))
  ne : ∀ (b g : Nat), nums[b]? = some g → ∃ s ∈ ds, sg s = g
  al : ∀ s ∈ ds, sg s ∈ nums
  sum : (mem.map List.length).sum = ds.length
section
variable {n : Nat} {sg : Nat → Nat} {ds : List Nat} {block : List (Option Nat)} {nums : List Nat} {mem : List (List Nat)}
theorem fb_start : FB n sg [] (List.replicate n none) [] [] := by
  refine ⟨List.length_replicate, fun s b => ⟨fun h => ?_, fun h => absurd h.1 List.not_mem_nil⟩, rfl, List.nodup_nil, List.nodup_nil, (fun b g h => by cases h), (fun b g h => by cases h), fun s h => absurd h List.not_mem_nil, rfl⟩
  unfold bv at h
  rw [List.getD_eq_getElem?_getD, List.getElem?_replicate] at h
  split at h <;> cases h
theorem FB.fresh (h : FB n sg ds block nums mem) {s : Nat} (hs : s < n) (hd : s ∉ ds) (hn : sg s ∉ nums) : FB n sg (ds ++ [s]) (block.set s (some mem.length)) (nums ++ [sg s]) (mem ++ [[s]]) where
  lb := by rw [List.length_set]; exact h.lb
  bl := fun t b => by
    rw [bv_set (by rw [h.lb]; exact hs)]
    by_cases e : t = s
    · rw [if_pos e, e]
      constructor
      · intro q
        have := Option.some.inj q
        subst this
        exact ⟨List.mem_append.mpr (.inr List.mem_cons_self), by rw [h.lm, List.getElem?_append_right (Nat.le_refl _), Nat.sub_self]; rfl⟩
      · rintro ⟨_, q⟩
        rcases Nat.lt_or_ge b nums.length with l | l
        · rw [List.getElem?_append_left l] at q
          exact absurd (List.mem_of_getElem? q) hn
        · have := (List.getElem?_eq_some_iff.mp q).1
          rw [List.length_append, List.length_singleton] at this
          rw [h.lm]
          exact congrArg some (by omega)
    · rw [if_neg e, h.bl]
      constructor
      · rintro ⟨q1, q2⟩
        exact ⟨List.mem_append.mpr (.inl q1), by rw [List.getElem?_append_left (List.getElem?_eq_some_iff.mp q2).1]; exact q2⟩
      · rintro ⟨q1, q2⟩
        have q1 := (List.mem_append.mp q1).resolve_right fun z => e (List.mem_singleton.mp z)
        refine ⟨q1, ?_⟩
        rcases Nat.lt_or_ge b nums.length with l | l
        · rw [List.getElem?_append_left l] at q2
          exact q2
        · have h1 := (List.getElem?_eq_some_iff.mp q2).1
          rw [List.length_append, List.length_singleton] at h1
          rw [List.getElem?_append_right l, show b - nums.length = 0 by omega] at q2
          have h2 : sg s = sg t := Option.some.inj q2
          exact absurd (h2 ▸ h.al t q1) hn
  lm := by rw [List.length_append, List.length_append, h.lm]; rfl
  nd := by
    rw [List.nodup_append]
    refine ⟨h.nd, List.nodup_cons.mpr ⟨List.not_mem_nil, List.nodup_nil⟩, fun x hx y hy e => ?_⟩
    rw [List.mem_singleton.mp hy] at e
    exact hn (e ▸ hx)
  nds := by
    rw [List.nodup_append]
    refine ⟨h.nds, List.nodup_cons.mpr ⟨List.not_mem_nil, List.nodup_nil⟩, fun x hx y hy e => ?_⟩
    rw [List.mem_singleton.mp hy] at e
    exact hd (e ▸ hx)
  ms := fun b g q => by
    rw [List.filter_append]
    rcases Nat.lt_or_ge b nums.length with l | l
    · rw [List.getElem?_append_left l] at q
      rw [List.getElem?_append_left (by rw [h.lm]; exact l), h.ms b g q, List.filter_cons, if_neg (by rw [decide_eq_true_eq]; exact fun z => hn (z ▸ List.mem_of_getElem? q)), List.filter_nil, List.append_nil]
    · have h1 := (List.getElem?_eq_some_iff.mp q).1
      rw [List.length_append, List.length_singleton] at h1
      rw [List.getElem?_append_right l, show b - nums.length = 0 by omega] at q
      have h2 : sg s = g := Option.some.inj q
      subst h2
      have h3 : ds.filter (fun t => decide (sg t = sg s)) = [] := List.filter_eq_nil_iff.mpr fun x hx z => hn (of_decide_eq_true z ▸ h.al x hx)
      rw [h3, List.getElem?_append_right (by rw [h.lm]; exact l), show b - mem.length = 0 by rw [h.lm]; omega, List.filter_cons, if_pos (decide_eq_true rfl)]
      rfl
  ne := fun b g q => by
    rcases Nat.lt_or_ge b nums.length with l | l
    · rw [List.getElem?_append_left l] at q
      obtain ⟨x, hx, e⟩ := h.ne b g q
      exact ⟨x, List.mem_append.mpr (.inl hx), e⟩
    · have h1 := (List.getElem?_eq_some_iff.mp q).1
      rw [List.length_append, List.length_singleton] at h1
      rw [List.getElem?_append_right l, show b - nums.length = 0 by omega] at q
      exact ⟨s, List.mem_append.mpr (.inr List.mem_cons_self), Option.some.inj q⟩
  al := fun t ht => by
    rcases List.mem_append.mp ht with ht | ht
    · exact List.mem_append.mpr (.inl (h.al t ht))
    · rw [List.mem_singleton.mp ht]
      exact List.mem_append.mpr (.inr List.mem_cons_self)
  sum := by
    rw [List.map_append, List.sum_append, h.sum, List.length_append]
    simp
theorem FB.more (h : FB n sg ds block nums mem) {s b : Nat} (hs : s < n) (hd : s ∉ ds) (hb : nums[b]? = some (sg s)) : FB n sg (ds ++ [s]) (block.set s (some b)) nums (mem.set b (mem.getD b [] ++ [s])) where
  lb := by rw [List.length_set]; exact h.lb
  bl := fun t b' => by
    rw [bv_set (by rw [h.lb]; exact hs)]
    by_cases e : t = s
    · rw [if_pos e, e]
      constructor
      · intro q
        have := Option.some.inj q
        subst this
        exact ⟨List.mem_append.mpr (.inr List.mem_cons_self), hb⟩
      · rintro ⟨_, q⟩
        exact congrArg some (nodup_at h.nd hb q)
    · rw [if_neg e, h.bl]
      exact ⟨fun q => ⟨List.mem_append.mpr (.inl q.1), q.2⟩, fun q => ⟨(List.mem_append.mp q.1).resolve_right fun z => e (List.mem_singleton.mp z), q.2⟩⟩
  lm := by rw [List.length_set, h.lm]
  nd := h.nd
  nds := by
    rw [List.nodup_append]
    refine ⟨h.nds, List.nodup_cons.mpr ⟨List.not_mem_nil, List.nodup_nil⟩, fun x hx y hy e => ?_⟩
    rw [List.mem_singleton.mp hy] at e
    exact hd (e ▸ hx)
  ms := fun b' g q => by
    have lb := (List.getElem?_eq_some_iff.mp hb).1
    rw [List.filter_append, List.getElem?_set]
    by_cases e : b = b'
    · subst e
      have hg : sg s = g := Option.some.inj (hb.symm.trans q)
      subst hg
      rw [if_pos rfl, if_pos (by rw [h.lm]; exact lb), List.getD_eq_getElem?_getD, h.ms b _ hb, List.filter_cons, if_pos (decide_eq_true rfl)]
      rfl
    · rw [if_neg e, h.ms b' g q, List.filter_cons, if_neg (by rw [decide_eq_true_eq]; exact fun z => e (nodup_at h.nd hb (z ▸ q))), List.filter_nil, List.append_nil]
  ne := fun b' g q => by
    obtain ⟨x, hx, e⟩ := h.ne b' g q
    exact ⟨x, List.mem_append.mpr (.inl hx), e⟩
  al := fun t ht => by
    rcases List.mem_append.mp ht with ht | ht
    · exact h.al t ht
    · rw [List.mem_singleton.mp ht]
      exact List.mem_of_getElem? hb
  sum := by
    have lb := (List.getElem?_eq_some_iff.mp hb).1
    have lm := h.lm
    have l1 : b < (mem.map List.length).length := by rw [List.length_map, lm]; exact lb
    have h1 := sum_set (zs := mem.map List.length) (v := (mem.getD b [] ++ [s]).length) l1
    have h2 := h.sum
    have h3 : (mem.map List.length)[b] = (mem.getD b []).length := by
      rw [List.getElem_map, getD_at (by omega)]
    have e1 : (mem.getD b [] ++ [s]).length = (mem.getD b []).length + 1 := by rw [List.length_append]; rfl
    have e2 : (ds ++ [s]).length = ds.length + 1 := by rw [List.length_append]; rfl
    rw [List.map_set, e2]
    omega
theorem range_wv {m b : Nat} : wv (List.replicate m true) b ↔ b < m := by
  unfold wv
  rw [List.getD_eq_getElem?_getD, List.getElem?_replicate]
  by_cases h : b < m
  · rw [if_pos h]
    exact ⟨fun _ => h, fun _ => rfl⟩
  · rw [if_neg h]
    exact ⟨(fun q => by cases q), fun q => absurd q h⟩
theorem bits_len {rs : Rws} {L : Nat} (wide : ∀ r ∈ rs, r.length = L) (lv : Nat → Bool) {s : Nat} (hs : s < rs.length) : (bitsOf rs lv s).length = L := by
  unfold bitsOf
  rw [List.length_map, getD_at hs]
  exact wide _ (List.getElem_mem hs)
theorem bits_at {rs : Rws} {lv : Nat → Bool} {s c : Nat} : (bitsOf rs lv s).getD c false = lvO lv (nx rs s c) := by
  unfold bitsOf nx
  rw [List.getD_eq_getElem?_getD, List.getElem?_map, List.getD_eq_getElem?_getD (l := rs.getD s [])]
  cases (rs.getD s [])[c]? with
  | none => rfl
  | some o => rfl
/-- the lots by signs start the splitting -/
theorem FB.ti {rs : Rws} {es : List Bool} {L : Nat} {R : Nat → Prop} {lv : Nat → Bool} (h : FB rs.length (sgS rs es lv) ds block nums mem) (wide : ∀ r ∈ rs, r.length = L) (hd : ∀ s, s ∈ ds ↔ (R s ∧ Live rs es s)) (rl : ∀ s, R s → s < rs.length) (ron : ∀ s c t, R s → nx rs s c = some t → R t)
    (hlv : ∀ t, R t → (lv t = true ↔ Live rs es t)) (S : Nat → Prop) : TI rs es R ds.length block mem (mem.map List.length) (List.replicate mem.length true) (List.range mem.length) 0 S L := by
  have lm := h.lm
  have dm : ∀ s b, bv block s = some b → R s := fun s b e => ((hd s).mp ((h.bl s b).mp e).1).1
  have numb : ∀ {b}, b < mem.length → ∃ g, nums[b]? = some g := fun hb => ⟨_, List.getElem?_eq_getElem (by omega)⟩
  have mb : ∀ b g, nums[b]? = some g → mem.getD b [] = ds.filter fun s => decide (sgS rs es lv s = g) := fun b g e => by
    rw [List.getD_eq_getElem?_getD, h.ms b g e]
    rfl
  refine ⟨⟨h.lb, (List.length_map _).symm, fun s b e => ?_, fun s b e => ?_, fun b => ?_, fun b hb => ?_, fun z hz => ?_, h.sum, fun b s hs => ?_⟩, List.length_replicate, List.nodup_range, fun b => ?_, ?_, ?_, ?_, ?_, fun s => ?_⟩
  · rw [lm]
    exact (List.getElem?_eq_some_iff.mp ((h.bl s b).mp e).2).1
  · obtain ⟨h1, h2⟩ := (h.bl s b).mp e
    rw [mb b _ h2]
    exact List.mem_filter.mpr ⟨h1, decide_eq_true rfl⟩
  · rcases Nat.lt_or_ge b mem.length with l | l
    · obtain ⟨g, e⟩ := numb l
      rw [mb b g e]
      exact h.nds.filter _
    · rw [List.getD_eq_getElem?_getD, List.getElem?_eq_none l]
      exact List.nodup_nil
  · obtain ⟨g, e⟩ := numb hb
    have e1 : (mem.map List.length).getD b 0 = (mem.getD b []).length := by
      rw [List.getD_eq_getElem?_getD, List.getElem?_map, List.getD_eq_getElem?_getD, List.getElem?_eq_getElem hb]
      rfl
    rw [e1, List.filter_eq_self.mpr fun s hs => ?_]
    rw [mb b g e] at hs
    obtain ⟨h1, h2⟩ := List.mem_filter.mp hs
    exact decide_eq_true ((h.bl s b).mpr ⟨h1, by rw [of_decide_eq_true h2]; exact e⟩)
  · obtain ⟨xs, hx, rfl⟩ := List.mem_map.mp hz
    obtain ⟨b, hb⟩ := List.mem_iff_getElem?.mp hx
    obtain ⟨g, e⟩ := numb (List.getElem?_eq_some_iff.mp hb).1
    obtain ⟨s, hs, es⟩ := h.ne b g e
    rw [h.ms b g e] at hb
    rw [← Option.some.inj hb]
    exact List.length_pos_of_mem (List.mem_filter.mpr ⟨hs, decide_eq_true es⟩)
  · rcases Nat.lt_or_ge b mem.length with l | l
    · obtain ⟨g, e⟩ := numb l
      rw [mb b g e] at hs
      exact rl s ((hd s).mp (List.mem_filter.mp hs).1).1
    · rw [List.getD_eq_getElem?_getD, List.getElem?_eq_none l] at hs
      exact absurd hs List.not_mem_nil
  · rw [List.mem_range, range_wv]
  · rw [List.length_range]
    omega
  · intro s t b c p q bp bq _ _ _ _ ep _ _
    left
    rw [range_wv, lm]
    exact (List.getElem?_eq_some_iff.mp ((h.bl p bp).mp ep).2).1
  · intro s t b b' e1 e2 e
    obtain ⟨h1, h2⟩ := (h.bl s b).mp e1
    obtain ⟨h3, h4⟩ := (h.bl t b').mp e2
    have hs := (hd s).mp h1
    have ht := (hd t).mp h3
    have hb : bitsOf rs lv s = bitsOf rs lv t := by
      refine List.ext_getElem (by rw [bits_len wide lv (rl s hs.1), bits_len wide lv (rl t ht.1)]) fun c g1 g2 => ?_
      have a1 : (bitsOf rs lv s).getD c false = (bitsOf rs lv s)[c] := getD_at g1
      have a2 : (bitsOf rs lv t).getD c false = (bitsOf rs lv t)[c] := getD_at g2
      rw [← a1, ← a2, bits_at, bits_at]
      have one : ∀ {s t : Nat}, R s → R t → Eqv rs es rs es s t → lvO lv (nx rs s c) = true → lvO lv (nx rs t c) = true := fun {s t} r1 r2 e k => by
        cases ep : nx rs s c with
        | none =>
          rw [ep] at k
          cases k
        | some p =>
          rw [ep] at k
          obtain ⟨q, w, _⟩ := e.way ⟨ep, (hlv p (ron s c p r1 ep)).mp k⟩
          rw [w.1]
          exact (hlv q (ron t c q r2 w.1)).mpr w.2
      cases k1 : lvO lv (nx rs s c) with
      | true => exact (one hs.1 ht.1 e k1).symm
      | false =>
        cases k2 : lvO lv (nx rs t c) with
        | false => rfl
        | true =>
          rw [one ht.1 hs.1 e.symm k2] at k1
          cases k1
    have e0 : es.getD s false = es.getD t false := e []
    have : sgS rs es lv s = sgS rs es lv t := by
      unfold sgS
      rw [hb, e0]
    rw [this] at h2
    exact nodup_at h.nd h2 h4
  · intro s t b e1 e2
    obtain ⟨h1, h2⟩ := (h.bl s b).mp e1
    obtain ⟨h3, h4⟩ := (h.bl t b).mp e2
    have hs := (hd s).mp h1
    have ht := (hd t).mp h3
    have eg : sgS rs es lv s = sgS rs es lv t := Option.some.inj (h2.symm.trans h4)
    obtain ⟨g1, g2⟩ := sign_inj (by rw [bits_len wide lv (rl s hs.1), bits_len wide lv (rl t ht.1)]) eg
    refine ⟨b2n_inj g1, fun c p b' hp hb => ?_⟩
    have hl := (hd p).mp ((h.bl p b').mp hb).1
    have k : lvO lv (nx rs t c) = true := by
      rw [← bits_at, ← g2, bits_at, hp]
      exact (hlv p hl.1).mpr hl.2
    cases eq : nx rs t c with
    | none =>
      rw [eq] at k
      cases k
    | some q =>
      rw [eq] at k
      have rq := ron t c q ht.1 eq
      have hq := (hd q).mpr ⟨rq, (hlv q rq).mp k⟩
      obtain ⟨i, hi⟩ := List.mem_iff_getElem?.mp (h.al q hq)
      exact ⟨q, i, rfl, (h.bl q i).mpr ⟨hq, hi⟩⟩
  · rw [← hd]
    constructor
    · rintro ⟨b, e⟩
      exact ((h.bl s b).mp e).1
    · intro hs
      obtain ⟨i, hi⟩ := List.mem_iff_getElem?.mp (h.al s hs)
      exact ⟨i, (h.bl s i).mpr ⟨hs, hi⟩⟩
end
/-! ### the law's own smallest machine -/
section
variable {rs : Rws} {es : List Bool} {L : Nat}
/-- the states from which words end, when nothing is added any more -/
theorem open_done {F : Nat → Prop} (tgt : ∀ r ∈ rs, ∀ t, some t ∈ r → t < rs.length) (wide : ∀ r ∈ rs, r.length = L) (so : ∀ s, F s → Live rs es s) (en : ∀ s, s < rs.length → es.getD s false = true → F s) (cl : ∀ s c t, s < rs.length → nx rs s c = some t → F t → F s) : ∀ s, s < rs.length → (F s ↔ Live rs es s) := by
  have key : ∀ (w : List Nat) (s : Nat), s < rs.length → acc rs es w s = true → F s := by
    intro w
    induction w with
    | nil => exact fun s hs e => en s hs e
    | cons c w ih =>
      intro s hs e
      cases ep : nx rs s c with
      | none =>
        rw [acc_none ep] at e
        cases e
      | some t =>
        rw [acc_cons ep] at e
        obtain ⟨_, _, r, hr, ht⟩ := nx_lt wide ep
        exact cl s c t hs ep (ih t (tgt r hr t ht) e)
  exact fun s hs => ⟨so s, fun ⟨w, hw⟩ => key w s hs hw⟩
theorem live_end {s : Nat} (h : es.getD s false = true) : Live rs es s := ⟨[], h⟩
theorem live_on {s c t : Nat} (h : nx rs s c = some t) (l : Live rs es t) : Live rs es s := by
  obtain ⟨w, hw⟩ := l
  exact ⟨c :: w, by rw [acc_cons h]; exact hw⟩
/-- a target that lives, if there is one -/
def Lvs (rs : Rws) (es : List Bool) : Option Nat → Prop
  | none => False
  | some t => Live rs es t
/-- pairs told apart by what is told apart already -/
structure Apart (rs : Rws) (es : List Bool) (H : Nat → Nat → Prop) (a b : Nat) : Prop where
  it : es.getD a false ≠ es.getD b false ∨ ∃ c, ¬ (Lvs rs es (nx rs a c) ↔ Lvs rs es (nx rs b c)) ∨ ∃ p q, nx rs a c = some p ∧ nx rs b c = some q ∧ Live rs es p ∧ H p q
theorem Apart.no {H : Nat → Nat → Prop} {a b : Nat} (h : Apart rs es H a b) (so : ∀ p q, H p q → ¬ Eqv rs es rs es p q) : ¬ Eqv rs es rs es a b := fun e => by
  have one : ∀ {a b c : Nat}, Eqv rs es rs es a b → Lvs rs es (nx rs a c) → Lvs rs es (nx rs b c) := fun {a b c} e h => by
    cases ep : nx rs a c with
    | none =>
      rw [ep] at h
      exact h.elim
    | some p =>
      rw [ep] at h
      obtain ⟨q, w, _⟩ := e.way ⟨ep, h⟩
      rw [w.1]
      exact w.2
  rcases h.it with h | ⟨c, h | ⟨p, q, h1, h2, h3, h4⟩⟩
  · exact h (e [])
  · exact h ⟨one e, one e.symm⟩
  · obtain ⟨q', w, e'⟩ := e.way ⟨h1, h3⟩
    have : q' = q := Option.some.inj (w.1.symm.trans h2)
    subst this
    exact so p q' h4 e'
theorem held_done {H : Nat → Nat → Prop} {D : Nat → Prop} (wy : ∀ s c t, D s → Way rs es s c t → D t) (cl : ∀ a b, D a → D b → Apart rs es H a b → H a b) : ∀ (a b : Nat), D a → D b → ¬ H a b → Eqv rs es rs es a b := by
  have key : ∀ (w : List Nat) (a b : Nat), D a → D b → ¬ H a b → acc rs es w a = true → acc rs es w b = true := by
    intro w
    induction w with
    | nil =>
      intro a b ha hb n e
      show es.getD b false = true
      have e : es.getD a false = true := e
      cases q : es.getD b false with
      | true => rfl
      | false => exact absurd (cl a b ha hb ⟨.inl (by rw [e, q]; decide)⟩) n
    | cons c w ih =>
      intro a b ha hb n e
      cases ep : nx rs a c with
      | none =>
        rw [acc_none ep] at e
        cases e
      | some p =>
        rw [acc_cons ep] at e
        have lp : Live rs es p := ⟨w, e⟩
        have lq : Lvs rs es (nx rs b c) := by
          have : Lvs rs es (nx rs a c) ↔ Lvs rs es (nx rs b c) := Classical.byContradiction fun z => n (cl a b ha hb ⟨.inr ⟨c, .inl z⟩⟩)
          exact this.mp (by rw [ep]; exact lp)
        cases eq : nx rs b c with
        | none =>
          rw [eq] at lq
          exact lq.elim
        | some q =>
          rw [eq] at lq
          rw [acc_cons eq]
          exact ih p q (wy a c p ha ⟨ep, lp⟩) (wy b c q hb ⟨eq, lq⟩) (fun z => n (cl a b ha hb ⟨.inr ⟨c, .inr ⟨p, q, ep, eq, lp, z⟩⟩⟩)) e
  have sym : ∀ a b, Apart rs es (fun x y => H y x) a b → Apart rs es H b a := fun a b h => by
    refine ⟨?_⟩
    rcases h.it with h | ⟨c, h | ⟨p, q, h1, h2, h3, h4⟩⟩
    · exact .inl fun z => h z.symm
    · exact .inr ⟨c, .inl fun z => h z.symm⟩
    · by_cases y : Lvs rs es (nx rs a c) ↔ Lvs rs es (nx rs b c)
      · exact .inr ⟨c, .inr ⟨q, p, h2, h1, by have := y.mp (by rw [h1]; exact h3); rw [h2] at this; exact this, h4⟩⟩
      · exact .inr ⟨c, .inl fun z => y z.symm⟩
  intro a b ha hb n w
  have h1 := key w a b ha hb n
  cases e1 : acc rs es w a with
  | true => exact (h1 e1).symm
  | false =>
    cases e2 : acc rs es w b with
    | false => rfl
    | true =>
      -- the other way round: what is not held of (a, b) leads alike as well
      exfalso
      have key2 : ∀ (w : List Nat) (a b : Nat), D a → D b → ¬ H a b → acc rs es w b = true → acc rs es w a = true := by
        intro w
        induction w with
        | nil =>
          intro a b ha hb n e
          show es.getD a false = true
          have e : es.getD b false = true := e
          cases q : es.getD a false with
          | true => rfl
          | false => exact absurd (cl a b ha hb ⟨.inl (by rw [e, q]; decide)⟩) n
        | cons c w ih =>
          intro a b ha hb n e
          cases ep : nx rs b c with
          | none =>
            rw [acc_none ep] at e
            cases e
          | some p =>
            rw [acc_cons ep] at e
            have lp : Live rs es p := ⟨w, e⟩
            have lq : Lvs rs es (nx rs a c) := by
              have : Lvs rs es (nx rs a c) ↔ Lvs rs es (nx rs b c) := Classical.byContradiction fun z => n (cl a b ha hb ⟨.inr ⟨c, .inl z⟩⟩)
              exact this.mpr (by rw [ep]; exact lp)
            cases eq : nx rs a c with
            | none =>
              rw [eq] at lq
              exact lq.elim
            | some q =>
              rw [eq] at lq
              rw [acc_cons eq]
              exact ih q p (wy a c q ha ⟨eq, lq⟩) (wy b c p hb ⟨ep, lp⟩) (fun z => n (cl a b ha hb ⟨.inr ⟨c, .inr ⟨q, p, eq, ep, lq, z⟩⟩⟩)) e
      rw [key2 w a b ha hb n e2] at e1
      cases e1
/-- the first of each lot among the states that are met -/
structure HD (rs : Rws) (es : List Bool) (P : Nat → Nat) (seen heads : List Nat) : Prop where
  up : heads.Pairwise fun a b => P a < P b
  mem : ∀ h ∈ heads, h ∈ seen
  one : ∀ (i j h h' : Nat), heads[i]? = some h → heads[j]? = some h' → Eqv rs es rs es h h' → i = j
  first : ∀ s ∈ seen, ∃ h ∈ heads, Eqv rs es rs es h s ∧ P h ≤ P s
variable {P : Nat → Nat} {seen heads : List Nat}
theorem hd_start : HD rs es P [] [] := ⟨List.Pairwise.nil, fun _ h => absurd h List.not_mem_nil, (fun _ _ _ _ h => by cases h), fun _ h => absurd h List.not_mem_nil⟩
theorem HD.old (h : HD rs es P seen heads) {s x : Nat} (hs : ∀ t ∈ seen, P t < P s) (hx : x ∈ heads) (e : Eqv rs es rs es x s) : HD rs es P (seen ++ [s]) heads :=
  ⟨h.up, fun y hy => List.mem_append.mpr (.inl (h.mem y hy)), h.one, fun t ht => by
    rcases List.mem_append.mp ht with ht | ht
    · exact h.first t ht
    · rw [List.mem_singleton.mp ht]
      exact ⟨x, hx, e, Nat.le_of_lt (hs x (h.mem x hx))⟩⟩
theorem HD.new (h : HD rs es P seen heads) {s : Nat} (hs : ∀ t ∈ seen, P t < P s) (no : ∀ x ∈ heads, ¬ Eqv rs es rs es x s) : HD rs es P (seen ++ [s]) (heads ++ [s]) := by
  refine ⟨List.pairwise_append.mpr ⟨h.up, List.pairwise_singleton _ _, fun a ha b hb => ?_⟩, fun y hy => ?_, fun i j a b ha hb e => ?_, fun t ht => ?_⟩
  · rw [List.mem_singleton.mp hb]
    exact hs a (h.mem a ha)
  · rcases List.mem_append.mp hy with hy | hy
    · exact List.mem_append.mpr (.inl (h.mem y hy))
    · exact List.mem_append.mpr (.inr hy)
  · have out : ∀ {i a : Nat}, (heads ++ [s])[i]? = some a → (heads[i]? = some a) ∨ (i = heads.length ∧ a = s) := fun {i a} q => by
      rcases Nat.lt_or_ge i heads.length with l | l
      · rw [List.getElem?_append_left l] at q
        exact .inl q
      · have l2 := (List.getElem?_eq_some_iff.mp q).1
        rw [List.length_append, List.length_singleton] at l2
        rw [List.getElem?_append_right l, show i - heads.length = 0 by omega] at q
        exact .inr ⟨by omega, (Option.some.inj q).symm⟩
    rcases out ha with qa | ⟨ia, ea⟩
    · rcases out hb with qb | ⟨ib, eb⟩
      · exact h.one i j a b qa qb e
      · rw [eb] at e
        exact absurd e (no a (List.mem_of_getElem? qa))
    · rcases out hb with qb | ⟨ib, _⟩
      · rw [ea] at e
        exact absurd e.symm (no b (List.mem_of_getElem? qb))
      · omega
  · rcases List.mem_append.mp ht with ht | ht
    · obtain ⟨x, hx, e, l⟩ := h.first t ht
      exact ⟨x, List.mem_append.mpr (.inl hx), e, l⟩
    · rw [List.mem_singleton.mp ht]
      exact ⟨s, List.mem_append.mpr (.inr List.mem_cons_self), Eqv.refl s, Nat.le_refl _⟩
theorem idx_at {found : List Nat} (nd : found.Nodup) {i s : Nat} (h : found[i]? = some s) : found.idxOf s = i := by
  have hm := List.mem_of_getElem? h
  have hl := List.idxOf_lt_length_of_mem hm
  exact nodup_at nd (by rw [List.getElem?_eq_getElem hl, List.getElem_idxOf hl]) h
theorem at_idx {found : List Nat} {s : Nat} (h : s ∈ found) : found[found.idxOf s]? = some s := by
  have hl := List.idxOf_lt_length_of_mem h
  rw [List.getElem?_eq_getElem hl, List.getElem_idxOf hl]
theorem pair_lt {P : Nat → Nat} {heads : List Nat} (h : heads.Pairwise fun a b => P a < P b) {i j a b : Nat} (hi : heads[i]? = some a) (hj : heads[j]? = some b) (l : i < j) : P a < P b := by
  have l1 := List.getElem?_eq_some_iff.mp hi
  have l2 := List.getElem?_eq_some_iff.mp hj
  have := List.pairwise_iff_getElem.mp h i j l1.1 l2.1 l
  rw [l1.2, l2.2] at this
  exact this
/-- the law's machine is the smallest one -/
theorem least_canon {found : List Nat} {done out : Rws} {oe : List Bool} (wide : ∀ r ∈ rs, r.length = L) (ni : NI rs L some found found done []) (hd : done.length = found.length) (lv0 : Live rs es 0)
    (hs : ∀ s, s ∈ seen ↔ (s ∈ found ∧ Live rs es s)) (hh : HD rs es (fun s => found.idxOf s) seen heads) (lo : out.length = heads.length) (ow : ∀ r ∈ out, r.length = L) (oe_ : oe = heads.map fun p => es.getD p false)
    (some_ : ∀ (i p c j : Nat), heads[i]? = some p → nx out i c = some j → ∃ t q, Way rs es p c t ∧ heads[j]? = some q ∧ Eqv rs es rs es t q) (none_ : ∀ (i p c t : Nat), heads[i]? = some p → c < L → nx out i c = none → ¬ Way rs es p c t) : Canon rs es L heads out oe := by
  have nd := ni.nd
  have m0 : 0 ∈ found := List.mem_of_getElem? ni.zero
  have z0 : found.idxOf 0 = 0 := idx_at nd ni.zero
  have edge : ∀ {p c t : Nat}, p ∈ found → nx rs p c = some t → nx done (found.idxOf p) c = some (found.idxOf t) ∧ t ∈ found := fun {p c t} hp ht => by
    have hip := at_idx hp
    have hil := (List.getElem?_eq_some_iff.mp hip).1
    have hc := (nx_lt wide ht).2.1
    cases e : nx done (found.idxOf p) c with
    | none => exact absurd (ni.no _ c p t (.inl ⟨by omega, hc⟩) (by rw [nx_new]; exact e) hip ht) (fun z => by cases z)
    | some j =>
      obtain ⟨p', t', b, e1, e2, e3, e4⟩ := ni.yes _ c j (by rw [nx_new]; exact e)
      have : p' = p := Option.some.inj (e1.symm.trans hip)
      subst this
      have : t' = t := Option.some.inj (e2.symm.trans ht)
      subst this
      have : t' = b := Option.some.inj e3
      subst this
      exact ⟨congrArg some (idx_at nd e4).symm, List.mem_of_getElem? e4⟩
  have inH : ∀ {i h : Nat}, heads[i]? = some h → h ∈ found ∧ Live rs es h := fun e => (hs _).mp (hh.mem _ (List.mem_of_getElem? e))
  refine ⟨lo, by rw [oe_, List.length_map], ?_, fun p hp => ((hs p).mp (hh.mem p hp)).2, hh.one, ow, fun i p hp => ?_, some_, none_, fun p c t _ w => (nx_lt wide w.1).2.1, fun j h1 h2 => ?_⟩
  · obtain ⟨h, hm, _, hl⟩ := hh.first 0 ((hs 0).mpr ⟨m0, lv0⟩)
    have hl : found.idxOf h ≤ found.idxOf 0 := hl
    rw [z0] at hl
    have hf := at_idx ((hs h).mp (hh.mem h hm)).1
    rw [show found.idxOf h = 0 by omega, ni.zero] at hf
    have : 0 = h := Option.some.inj hf
    subst this
    obtain ⟨i, hi⟩ := List.mem_iff_getElem?.mp hm
    by_cases y : i = 0
    · subst y
      exact hi
    · have l := (List.getElem?_eq_some_iff.mp hi).1
      have := pair_lt hh.up (List.getElem?_eq_getElem (show 0 < heads.length by omega)) hi (by omega)
      have : found.idxOf heads[0] < found.idxOf 0 := this
      omega
  · rw [oe_, List.getElem?_map, hp]
    rfl
  · have hj := List.getElem?_eq_getElem h2
    obtain ⟨fj, lj⟩ := inH hj
    have pj := at_idx fj
    have jl := (List.getElem?_eq_some_iff.mp pj).1
    have jpos : 1 ≤ found.idxOf heads[j] := by
      have := pair_lt hh.up (List.getElem?_eq_getElem (show 0 < heads.length by omega)) hj (by omega)
      have : found.idxOf heads[0] < found.idxOf heads[j] := this
      omega
    obtain ⟨p, c, hp, hpc, hmin⟩ := ni.ord _ jpos jl
    rw [nx_new] at hpc
    obtain ⟨P0, t, b, e1, e2, e3, e4⟩ := ni.yes p c _ (by rw [nx_new]; exact hpc)
    have e3 : t = b := Option.some.inj e3
    subst e3
    have : t = heads[j] := Option.some.inj (e4.symm.trans pj)
    subst this
    have fP := List.mem_of_getElem? e1
    have lP : Live rs es P0 := live_on e2 lj
    obtain ⟨h, hm, he, hle⟩ := hh.first P0 ((hs P0).mpr ⟨fP, lP⟩)
    have hle : found.idxOf h ≤ found.idxOf P0 := hle
    rw [idx_at nd e1] at hle
    obtain ⟨i, hi⟩ := List.mem_iff_getElem?.mp hm
    obtain ⟨fh, lh⟩ := inH hi
    obtain ⟨t', w', et⟩ := he.symm.way ⟨e2, lj⟩
    obtain ⟨d', ft'⟩ := edge fh w'.1
    -- the first of its lot stands no earlier
    have firstOf : ∀ {x y : Nat} {i : Nat}, heads[i]? = some x → y ∈ found → Live rs es y → Eqv rs es rs es y x → found.idxOf x ≤ found.idxOf y := fun {x y i} hx fy ly e => by
      obtain ⟨z, hz, ez, lz⟩ := hh.first y ((hs y).mpr ⟨fy, ly⟩)
      obtain ⟨i2, hi2⟩ := List.mem_iff_getElem?.mp hz
      have := hh.one i2 i z x hi2 hx (ez.trans e)
      subst this
      have : z = x := Option.some.inj (hi2.symm.trans hx)
      subst this
      exact lz
    have ge := firstOf hj ft' w'.2 et.symm
    have g2 := hmin _ c _ (by rw [nx_new]; exact d') ge
    have eqp : p = found.idxOf h := by omega
    have P0h : P0 = h := by
      have := at_idx fh
      rw [← eqp] at this
      exact Option.some.inj (e1.symm.trans this)
    subst P0h
    have ij : i < j := by
      rcases Nat.lt_trichotomy i j with l | l | l
      · exact l
      · subst l
        have : P0 = heads[i] := Option.some.inj (hi.symm.trans hj)
        rw [← this] at hp
        omega
      · have := pair_lt hh.up hj hi l
        have : found.idxOf heads[j] < found.idxOf P0 := this
        omega
    have oc := (nx_lt wide e2).2.1
    have val : nx out i c = some j := by
      cases e : nx out i c with
      | none => exact absurd ⟨e2, lj⟩ (none_ i P0 c _ hi oc e)
      | some j2 =>
        obtain ⟨t2, q, w2, hq, he2⟩ := some_ i P0 c j2 hi e
        have : t2 = heads[j] := Option.some.inj (w2.1.symm.trans e2)
        subst this
        rw [hh.one j2 j q heads[j] hq hj he2.symm]
    refine ⟨i, c, ij, val, fun i' c' j' hv hj' => ?_⟩
    have il : i' < heads.length := by
      have := (nx_lt ow hv).1
      omega
    have hi' := List.getElem?_eq_getElem il
    obtain ⟨t2, q, w2, hq, he2⟩ := some_ i' _ c' j' hi' hv
    obtain ⟨fi', _⟩ := inH hi'
    obtain ⟨d2, ft2⟩ := edge fi' w2.1
    have g3 := firstOf hq ft2 w2.2 he2
    have g4 : found.idxOf heads[j] ≤ found.idxOf q := by
      rcases Nat.lt_or_ge j j' with l | l
      · exact Nat.le_of_lt (pair_lt hh.up hj hq l)
      · have : j' = j := by omega
        subst this
        have : q = heads[j'] := Option.some.inj (hq.symm.trans hj)
        rw [this]
        exact Nat.le_refl _
    have g5 := hmin _ c' _ (by rw [nx_new]; exact d2) (Nat.le_trans g4 g3)
    rw [eqp] at g5
    rcases Nat.lt_trichotomy i i' with l | l | l
    · exact .inl l
    · subst l
      have : P0 = heads[i] := Option.some.inj (hi.symm.trans hi')
      rw [← this] at g5
      exact .inr ⟨rfl, by omega⟩
    · have := pair_lt hh.up hi' hi l
      have : found.idxOf heads[i'] < found.idxOf P0 := this
      omega
end
/-! ### what the smallest machine is, and machines of the same words -/
def Smallest (rs : Rws) (es : List Bool) (L : Nat) (out : Rws) (oe : List Bool) : Prop := (∃ ps, Canon rs es L ps out oe) ∨ (¬ Live rs es 0 ∧ out = [List.replicate L none] ∧ oe = [false])
theorem canon_live {rs : Rws} {es : List Bool} {L : Nat} {ps : List Nat} {out : Rws} {oe : List Bool} (C : Canon rs es L ps out oe) : Live rs es 0 := C.live 0 (List.mem_of_getElem? C.zero)
theorem smallest_eq {rs rs' : Rws} {es es' : List Bool} {L : Nat} {out out' : Rws} {oe oe' : List Bool} (h : Smallest rs es L out oe) (g : Smallest rs' es' L out' oe') (e : Eqv rs es rs' es' 0 0) : out = out' ∧ oe = oe' := by
  rcases h with ⟨ps, C⟩ | ⟨n, rfl, rfl⟩
  · rcases g with ⟨ps', C'⟩ | ⟨n', _, _⟩
    · exact canon_eq C C' e
    · exact absurd (e.live (canon_live C)) n'
  · rcases g with ⟨ps', C'⟩ | ⟨n', rfl, rfl⟩
    · exact absurd (e.symm.live (canon_live C')) n
    · exact ⟨rfl, rfl⟩
theorem nx_none_row {L c : Nat} : nx [List.replicate L none] 0 c = none := by
  unfold nx
  show (List.replicate L none).getD c none = none
  rw [List.getD_eq_getElem?_getD, List.getElem?_replicate]
  split <;> rfl
theorem smallest_eqv {rs : Rws} {es : List Bool} {L : Nat} {out : Rws} {oe : List Bool} (h : Smallest rs es L out oe) : Eqv out oe rs es 0 0 := by
  rcases h with ⟨ps, C⟩ | ⟨n, rfl, rfl⟩
  · exact canon_eqv C
  · intro w
    have e1 : acc rs es w 0 = false := by
      cases e : acc rs es w 0 with
      | false => rfl
      | true => exact absurd ⟨w, e⟩ n
    rw [e1]
    cases w with
    | nil => rfl
    | cons c w => exact acc_none nx_none_row
/-- one machine goes along with another one -/
theorem sim {rs rs' : Rws} {es es' : List Bool} (Rel : Nat → Nat → Prop) (h : ∀ s' s, Rel s' s → es'.getD s' false = es.getD s false ∧ ∀ c, (∃ t' t, nx rs' s' c = some t' ∧ nx rs s c = some t ∧ Rel t' t) ∨ (nx rs s c = none ∧ ∀ w, acc rs' es' (c :: w) s' = false)) : ∀ (w : List Nat) (s' s : Nat), Rel s' s → acc rs' es' w s' = acc rs es w s
  | [], s', s, r => (h s' s r).1
  | c :: w, s', s, r => by
    rcases (h s' s r).2 c with ⟨t', t, e1, e2, r'⟩ | ⟨e1, e2⟩
    · rw [acc_cons e1, acc_cons e2]
      exact sim Rel h w t' t r'
    · rw [e2 w, acc_none e1]
theorem nx_map {α : Type} {xs : List α} {f : α → List (Option Nat)} {s c : Nat} {x : α} (h : xs[s]? = some x) : nx (xs.map f) s c = (f x).getD c none := by
  have e : (xs.map f).getD s [] = f x := by
    rw [List.getD_eq_getElem?_getD, List.getElem?_map, h]
    rfl
  unfold nx
  rw [e]
theorem nx_ge {rs : Rws} {s c : Nat} (h : rs.length ≤ s) : nx rs s c = none := by
  have e : rs.getD s [] = [] := by
    rw [List.getD_eq_getElem?_getD, List.getElem?_eq_none h]
    rfl
  unfold nx
  rw [e]
  rfl
/-- each state twice: s and s + n go where s goes, to either of the two -/
structure Dbl (rs rs' : Rws) (es es' : List Bool) : Prop where
  len : rs'.length = rs.length + rs.length
  el : es.length = rs.length
  ee : es' = es ++ es
  go : ∀ (s s' c : Nat), s < rs.length → (s' = s ∨ s' = s + rs.length) → (nx rs s c = none ∧ nx rs' s' c = none) ∨ ∃ t, nx rs s c = some t ∧ (nx rs' s' c = some t ∨ nx rs' s' c = some (t + rs.length))
theorem dbl_eqv {rs rs' : Rws} {es es' : List Bool} (h : Dbl rs rs' es es') (tgt : ∀ s c t, nx rs s c = some t → t < rs.length) (h1 : 1 ≤ rs.length) : Eqv rs' es' rs es 0 0 := fun w => by
  refine sim (fun s' s => s < rs.length ∧ (s' = s ∨ s' = s + rs.length)) (fun s' s hr => ?_) w 0 0 ⟨h1, .inl rfl⟩
  obtain ⟨hs, e⟩ := hr
  refine ⟨?_, fun c => ?_⟩
  · rw [h.ee, List.getD_eq_getElem?_getD, List.getD_eq_getElem?_getD]
    have el := h.el
    rcases e with e | e
    · rw [e, List.getElem?_append_left (by omega)]
    · rw [e, List.getElem?_append_right (by omega), el, Nat.add_sub_cancel]
  · rcases h.go s s' c hs e with ⟨e1, e2⟩ | ⟨t, e1, e2⟩
    · exact .inr ⟨e1, fun w => acc_none e2⟩
    · rcases e2 with e2 | e2
      · exact .inl ⟨_, _, e2, e1, tgt s c t e1, .inl rfl⟩
      · exact .inl ⟨_, _, e2, e1, tgt s c t e1, .inr rfl⟩
/-- some ways more, to a state without words -/
structure Mor (rs rs' : Rws) (es es' : List Bool) : Prop where
  el : es.length = rs.length
  es : ∀ s, s < rs.length → es'.getD s false = es.getD s false
  dead : es'.getD rs.length false = false ∧ ∀ c t, nx rs' rs.length c = some t → t = rs.length
  go : ∀ (s c : Nat), s < rs.length → (nx rs s c = none ∧ (nx rs' s c = none ∨ nx rs' s c = some rs.length)) ∨ ∃ t, nx rs s c = some t ∧ nx rs' s c = some t
theorem mor_eqv {rs rs' : Rws} {es es' : List Bool} (h : Mor rs rs' es es') (tgt : ∀ s c t, nx rs s c = some t → t < rs.length) (h1 : 1 ≤ rs.length) : Eqv rs' es' rs es 0 0 := fun w => by
  have dead : ∀ w, acc rs' es' w rs.length = false := by
    intro w
    induction w with
    | nil => exact h.dead.1
    | cons c w ih =>
      cases e : nx rs' rs.length c with
      | none => exact acc_none e
      | some t =>
        have := h.dead.2 c t e
        subst this
        rw [acc_cons e]
        exact ih
  refine sim (fun s' s => s < rs.length ∧ s' = s) (fun s' s hr => ?_) w 0 0 ⟨h1, rfl⟩
  obtain ⟨hs, rfl⟩ := hr
  refine ⟨h.es s' hs, fun c => ?_⟩
  rcases h.go s' c hs with ⟨e1, e2⟩ | ⟨t, e1, e2⟩
  · refine .inr ⟨e1, fun w => ?_⟩
    rcases e2 with e2 | e2
    · exact acc_none e2
    · rw [acc_cons e2]
      exact dead w
  · exact .inl ⟨t, t, e2, e1, tgt s' c t e1, rfl⟩
/-- the states in another order -/
structure Mix (rs rs' : Rws) (es es' : List Bool) (order : List Nat) : Prop where
  ol : order.length = rs.length
  zero : order[0]? = some 0
  es : es' = order.map fun s => es.getD s false
  go : ∀ (i s c : Nat), order[i]? = some s → (nx rs s c = none ∧ nx rs' i c = none) ∨ ∃ t j, nx rs s c = some t ∧ nx rs' i c = some j ∧ order[j]? = some t
theorem mix_eqv {rs rs' : Rws} {es es' : List Bool} {order : List Nat} (h : Mix rs rs' es es' order) : Eqv rs' es' rs es 0 0 := fun w => by
  refine sim (fun s' s => order[s']? = some s) (fun s' s hr => ?_) w 0 0 h.zero
  refine ⟨?_, fun c => ?_⟩
  · rw [h.es, List.getD_eq_getElem?_getD, List.getElem?_map, hr]
    rfl
  · rcases h.go s' s c hr with ⟨e1, e2⟩ | ⟨t, j, e1, e2, e3⟩
    · exact .inr ⟨e1, fun w => acc_none e2⟩
    · exact .inl ⟨j, t, e2, e1, e3⟩
/-! long rows and rings -/
structure Lng (n : Nat) (ring : Bool) (rs : Rws) (es : List Bool) : Prop where
  pos : 1 ≤ n
  len : rs.length = n
  el : es.length = n
  wide : ∀ r ∈ rs, r.length = 1
  go : ∀ s, s + 1 < n → nx rs s 0 = some (s + 1)
  last : nx rs (n - 1) 0 = if ring = true then some 0 else none
  en : ∀ s, s < n → es.getD s false = decide (s = n - 1)
section
variable {n : Nat} {ring : Bool} {rs : Rws} {es : List Bool}
theorem Lng.reach (h : Lng n ring rs es) : ∀ (k s : Nat), s + k < n → acc rs es (List.replicate k 0) s = decide (s + k = n - 1)
  | 0, s, hs => h.en s hs
  | k + 1, s, hs => by
    rw [List.replicate_succ, acc_cons (h.go s (by omega)), h.reach k (s + 1) (by omega)]
    rw [decide_eq_decide]
    omega
theorem Lng.live (h : Lng n ring rs es) {s : Nat} (hs : s < n) : Live rs es s := ⟨List.replicate (n - 1 - s) 0, by rw [h.reach _ _ (by omega)]; exact decide_eq_true (by omega)⟩
theorem Lng.val (h : Lng n ring rs es) {s c t : Nat} (e : nx rs s c = some t) : c = 0 ∧ s < n ∧ ((s + 1 < n ∧ t = s + 1) ∨ (s = n - 1 ∧ ring = true ∧ t = 0)) := by
  obtain ⟨h1, h2, _⟩ := nx_lt h.wide e
  have hl := h.len
  have : c = 0 := by omega
  subst this
  refine ⟨rfl, by omega, ?_⟩
  by_cases z : s + 1 < n
  · rw [h.go s z] at e
    exact .inl ⟨z, (Option.some.inj e).symm⟩
  · have : s = n - 1 := by omega
    subst this
    rw [h.last] at e
    split at e
    · rename_i r
      exact .inr ⟨rfl, r, (Option.some.inj e).symm⟩
    · cases e
/-- a longer way than to the end: around the ring, or nowhere -/
theorem Lng.past (h : Lng n ring rs es) : ∀ (k s : Nat), s < n → n ≤ s + k → s + k + 1 < n + n → acc rs es (List.replicate k 0) s = false
  | 0, s, hs, h1, _ => absurd h1 (by omega)
  | k + 1, s, hs, h1, h2 => by
    by_cases z : s + 1 < n
    · rw [List.replicate_succ, acc_cons (h.go s z)]
      exact h.past k (s + 1) z (by omega) (by omega)
    · have e : s = n - 1 := by omega
      subst e
      have l := h.last
      by_cases r : ring = true
      · rw [if_pos r] at l
        rw [List.replicate_succ, acc_cons l, h.reach k 0 (by omega)]
        exact decide_eq_false (by omega)
      · rw [if_neg r] at l
        rw [List.replicate_succ, acc_none l]
theorem Lng.canon (h : Lng n ring rs es) : Canon rs es 1 (List.range n) rs es where
  lo := by rw [h.len, List.length_range]
  le := by rw [h.el, List.length_range]
  zero := by rw [List.getElem?_range (show 0 < n from h.pos)]
  live := fun p hp => h.live (List.mem_range.mp hp)
  one := fun i j p q hp hq e => by
    have lp := (List.getElem?_eq_some_iff.mp hp).1
    have lq := (List.getElem?_eq_some_iff.mp hq).1
    rw [List.length_range] at lp lq
    rw [List.getElem?_range lp] at hp
    rw [List.getElem?_range lq] at hq
    cases hp
    cases hq
    have one : ∀ {i j : Nat}, i < n → j < n → Eqv rs es rs es i j → ¬ i < j := fun {i j} lp lq e l => by
      have h1 := e (List.replicate (n - 1 - i) 0)
      rw [h.reach _ _ (by omega), decide_eq_true (by omega), h.past _ _ lq (by omega) (by omega)] at h1
      cases h1
    have a := one lp lq e
    have b := one lq lp e.symm
    omega
  wide := h.wide
  ends := fun i p hp => by
    have lp := (List.getElem?_eq_some_iff.mp hp).1
    rw [List.length_range] at lp
    rw [List.getElem?_range lp] at hp
    cases hp
    rw [List.getD_eq_getElem?_getD, List.getElem?_eq_getElem (by rw [h.el]; exact lp)]
    rfl
  some_ := fun i p c j hp hj => by
    have lp := (List.getElem?_eq_some_iff.mp hp).1
    rw [List.length_range] at lp
    rw [List.getElem?_range lp] at hp
    cases hp
    have lj : j < n := by
      obtain ⟨_, _, q | q⟩ := h.val hj
      · omega
      · have := h.pos
        omega
    exact ⟨j, j, ⟨hj, h.live lj⟩, List.getElem?_range lj, Eqv.refl j⟩
  none_ := fun i p c t hp _ hn w => by
    have lp := (List.getElem?_eq_some_iff.mp hp).1
    rw [List.length_range] at lp
    rw [List.getElem?_range lp] at hp
    cases hp
    have := w.1
    rw [hn] at this
    cases this
  over := fun p c t _ w => (nx_lt h.wide w.1).2.1
  ord := fun j h1 h2 => by
    rw [List.length_range] at h2
    refine ⟨j - 1, 0, by omega, by rw [h.go (j - 1) (by omega)]; exact congrArg some (by omega), fun i' c' j' e hj => ?_⟩
    obtain ⟨rfl, _, q | q⟩ := h.val e
    · by_cases z : j - 1 = i'
      · exact .inr ⟨z, Nat.le_refl _⟩
      · exact .inl (by omega)
    · omega
end
/-! ### rules for lists that HandS has none for -/
section
variable {X : Cx}
def tTruL (K : PySem.W.Frag) (t : TE) : TT := fun σ H Q => t σ H fun x H1 => ∃ a xs, x = .ref a ∧ SqL K H1 a xs ∧ Q (!xs.isEmpty) H1
theorem pt_lstT {e : Expr} {t : TE} (he : PE X e t) (hi : ∀ whole, isTrue e X.env whole = (do let v ← whole; standAt e.pos; holding [v] (truthy v)) := by intro _; rfl) : PT X e (tTruL X.K t) := by
  refine ⟨fun pins s σ H Q I h => ?_⟩
  refine isTrue_plain (thn (he.run pins s σ H _ I h) fun v s1 ⟨x, H1, I1, r1, a, xs, ex, hd, q⟩ => ?_) (hi _)
  subst ex
  cases r1
  obtain ⟨its, rv, pl, hz⟩ := I1.list hd
  have hlen := rv.length
  have hl' := pl.isList
  refine PySem.wpAny_truthy_list hl' (by simp only [List.size_toArray]; have hn := line63; omega) ?_
  have e3 : (!its.toArray.isEmpty) = (!xs.isEmpty) := by
    cases xs <;> cases its <;> first | rfl | (simp at hlen)
  rw [e3]
  exact ⟨H1, I1.tok _, q⟩
/-- o[i] of a list, i from the front -/
def rGetL (K : PySem.W.Frag) : V → V → Hp → VK → Prop := fun o i H Q => ∃ (p : Addr) (xs : List V) (j : Nat) (z : V), o = .ref p ∧ i = .int (j : Int) ∧ SqL K H p xs ∧ xs[j]? = some z ∧ Q z H
theorem pget_list : PGet X (rGetL X.K) := by
  intro pins s σ H o i ov iv Q I ro ri h
  obtain ⟨p, xs, j, z, rfl, rfl, hq, he, q⟩ := h
  cases ro
  obtain ⟨t, rfl⟩ := ri
  obtain ⟨its, r, pl, hz⟩ := I.list hq
  obtain ⟨w, ew, rw'⟩ := r.get he
  have hl := r.length
  have hn := line63
  have hj := (List.getElem?_eq_some_iff.mp he).1
  exact PyProof.Rows.getItem_listL pl.isList (by omega) (by omega) (by simpa using ew) ⟨z, H, I, rw', q⟩
end

section
variable {P : Program} {w : World} {K : PySem.W.Frag} {mg : Str → Option Value} {base : Heap}
theorem scMove : FnScope ["old", "moved", "block", "members", "sizes", "state"] ["old", "moved", "block", "members", "sizes"] (defScope sMove) := ⟨rfl, rfl, rfl, by decide +kernel, rfl, by decide +kernel, by decide +kernel⟩
def spMove (K : PySem.W.Frag) : Sp := fun vs H Q _ => ∃ (mv blk mem szs : Addr) (old : Nat) (moved : List Nat) (block : List (Option Nat)) (ma : List Addr) (sizes : List Nat), vs = [.int (old : Int), .ref mv, .ref blk, .ref mem, .ref szs] ∧
  H mv = some (.lst (moved.map natV)) ∧ H blk = some (.lst (block.map oV)) ∧ H mem = some (.lst (ma.map V.ref)) ∧ H szs = some (.lst (sizes.map natV)) ∧ mv ≠ blk ∧ mv ≠ mem ∧ mv ≠ szs ∧ blk ≠ mem ∧ blk ≠ szs ∧ mem ≠ szs ∧
  (∀ s ∈ moved, s < block.length) ∧ old < sizes.length ∧ moved.length ≤ sizes.getD old 0 ∧ ma.length ≤ 1000000 ∧ sizes.length ≤ 1000000 ∧
  ∀ H', Keep (fun b => b = blk ∨ b = mem ∨ b = szs) H H' → H' blk = some (.lst ((mark ma.length block moved).map oV)) → H' mem = some (.lst ((ma ++ [mv]).map V.ref)) → H' szs = some (.lst (((sizes ++ [moved.length]).set old (sizes.getD old 0 - moved.length)).map natV)) → Q .non H'
theorem mark_snoc {m s : Nat} {moved : List Nat} {block : List (Option Nat)} : mark m block (moved ++ [s]) = (mark m block moved).set s (some m) := by
  unfold mark
  rw [List.foldl_append]
  rfl
theorem ok_move {f : Addr} {fd : FuncData} (F : Fun K "move" "move" sMove f fd) (T : Mg mg) : FnOk P w K mg base CX0 1 f fd ["old", "moved", "block", "members", "sizes"] (spMove K) := by
  refine F.ok scMove (fun vs H Q E h => ?_) (fun cdv A outer s H vs Q E hr h => ?_)
  · obtain ⟨mv, blk, mem, szs, old, moved, block, ma, sizes, rfl, _⟩ := h
    rfl
  · obtain ⟨mv, blk, mem, szs, old, moved, block, ma, sizes, rfl, h1, h2, h3, h4, n1, n2, n3, n4, n5, n6, hin, ho, hle, hma, hsz, k⟩ := h
    refine ⟨_, (pss_cons (ps_for PassesOwn.never rfl (pi_list (pv 1)) (pg_name (i := 5) scMove.nd rfl (.inl rfl)) (pss_one (ps_asg (pe_callB (r := rLen K) call_len_seq (by rfl) T.len PySem.boot_len (pa_cons (pv 3) pa_nil)) (pg_sub (pv 2) (pv 5) set_list))))
      (pss_cons (ps_expr (pe_bm PySem.F.plainAttrs_list PySem.F.slot_list_append PySem.F.type_list_append mt_append (pv 3) (pa_cons (pv 1) pa_nil)))
      (pss_cons (ps_expr (pe_bm PySem.F.plainAttrs_list PySem.F.slot_list_append PySem.F.type_list_append mt_append (pv 4) (pa_cons (pe_callB (r := rLen K) call_len_seq (by rfl) T.len PySem.boot_len (pa_cons (pv 1) pa_nil)) pa_nil)))
      (pss_one (ps_augS (pv 4) (pv 0) pget_list (pe_callB (r := rLen K) call_len_seq (by rfl) T.len PySem.boot_len (pa_cons (pv 1) pa_nil)) ip_sub set_list))))), ?_⟩
    refine ⟨_, rfl, mv, rfl, ⟨_, SqL.of h1⟩, ?_⟩
    refine for_list (K := K) (a := mv) (xs := moved.map natV) (fun j σ H' => (∃ y5, σ = [some (V.int (old : Int)), some (V.ref mv), some (V.ref blk), some (V.ref mem), some (V.ref szs), y5]) ∧ H' = upd H blk (.lst ((mark ma.length block (moved.take j)).map oV))) ⟨⟨_, rfl⟩, ?_⟩ (fun j σ H' _ q => by rw [q.2]; exact SqL.of (by rw [upd_ne n1]; exact h1)) ?_ ?_
    · exact (L2.upd_self h2).symm
    · rintro j x σ H' hx ⟨⟨y5, rfl⟩, rfl⟩
      obtain ⟨u, hu, rfl⟩ := natV_of hx
      have hub := hin u (List.mem_of_getElem? hu)
      have g3 : (upd H blk (.lst ((mark ma.length block (moved.take j)).map oV))) mem = some (.lst (ma.map V.ref)) := by rw [upd_ne n4.symm]; exact h3
      refine ⟨_, rfl, mem, _, rfl, .inl (SqL.of g3), ?_⟩
      refine ⟨_, rfl, _, rfl, blk, _, (u : Int), u, rfl, rfl, upd_same, Evl.ixN_nat (by rw [List.length_map, mark_len]; exact hub), ?_⟩
      refine ⟨⟨_, rfl⟩, ?_⟩
      rw [upd_upd, List.take_add_one, hu]
      show upd H blk _ = upd H blk (.lst ((mark ma.length block (moved.take j ++ [u])).map oV))
      rw [mark_snoc, List.map_set, List.length_map]
      rfl
    · rintro σ H' ⟨⟨y5, rfl⟩, rfl⟩
      rw [List.length_map, List.take_length]
      have hG : ∃ G, G = upd H blk (.lst ((mark ma.length block moved).map oV)) := ⟨_, rfl⟩
      obtain ⟨G, hG⟩ := hG
      rw [← hG]
      have b1 : G blk = some (.lst ((mark ma.length block moved).map oV)) := by rw [hG, upd_same]
      have b2 : G mem = some (.lst (ma.map V.ref)) := by rw [hG, upd_ne n4.symm]; exact h3
      have b3 : G szs = some (.lst (sizes.map natV)) := by rw [hG, upd_ne n5.symm]; exact h4
      have b4 : G mv = some (.lst (moved.map natV)) := by rw [hG, upd_ne n1]; exact h1
      have kp : Keep (fun b => b = blk ∨ b = mem ∨ b = szs) H G := fun b u nb e => by
        rw [hG, upd_ne (fun z => nb (.inl z))]
        exact e
      clear hG
      refine ⟨_, rfl, .inl ⟨rfl, _, SqL.of b2⟩, _, rfl, mem, _, _, rfl, rfl, b2, small9 (by rw [List.length_map]; exact hma), ?_⟩
      have c3 : (upd G mem (.lst (ma.map V.ref ++ [V.ref mv]))) szs = some (.lst (sizes.map natV)) := by rw [upd_ne n6.symm]; exact b3
      have c4 : (upd G mem (.lst (ma.map V.ref ++ [V.ref mv]))) mv = some (.lst (moved.map natV)) := by rw [upd_ne n2]; exact b4
      refine ⟨_, rfl, .inl ⟨rfl, _, SqL.of c3⟩, _, rfl, mv, _, rfl, .inl (SqL.of c4), szs, _, _, rfl, rfl, c3, small9 (by rw [List.length_map]; exact hsz), ?_⟩
      have es : sizes.map natV ++ [V.int ((moved.map natV).length : Int)] = (sizes ++ [moved.length]).map natV := by
        rw [List.map_append, List.length_map]
        rfl
      have hat : (sizes ++ [moved.length])[old]? = some (sizes.getD old 0) := by
        rw [List.getElem?_append_left ho, getD_at ho]
        exact List.getElem?_eq_getElem ho
      refine ⟨_, rfl, _, rfl, szs, _, old, _, rfl, rfl, SqL.of upd_same, by rw [es]; exact natV_get hat, ?_⟩
      refine ⟨_, rfl, mv, _, rfl, .inl (SqL.of (by rw [upd_ne n3]; exact c4)), ?_⟩
      refine ⟨_, _, rfl, rfl, szs, _, (old : Int), old, rfl, rfl, upd_same, Evl.ixN_nat (by rw [es, List.length_map, List.length_append]; omega), ?_⟩
      refine k _ (fun b u nb e => ?_) ?_ ?_ ?_
      · rw [upd_upd, upd_ne (fun z => nb (.inr (.inr z))), upd_ne (fun z => nb (.inr (.inl z)))]
        exact kp b u nb e
      · rw [upd_upd, upd_ne n5, upd_ne n4]
        exact b1
      · rw [upd_upd, upd_ne n6, upd_same, List.map_append]
        rfl
      · rw [upd_same, es, List.map_set]
        rw [show natV (sizes.getD old 0 - moved.length) = V.int ((sizes.getD old 0 : Int) - ((moved.map natV).length : Int)) by rw [List.length_map]; show V.int _ = V.int _; congr 1; omega]
end
section
variable {P : Program} {w : World} {K : PySem.W.Frag} {mg : Str → Option Value} {base : Heap}
theorem scLook : FnScope ["old", "sizes", "waiting", "new", "chosen"] ["old", "sizes", "waiting"] (defScope sLook) := ⟨rfl, rfl, rfl, by decide +kernel, rfl, by decide +kernel, by decide +kernel⟩
def spLook (K : PySem.W.Frag) : Sp := fun vs H Q _ => ∃ (szs wt : Addr) (old : Nat) (sizes : List Nat) (wait : List Bool), vs = [.int (old : Int), .ref szs, .ref wt] ∧ H szs = some (.lst (sizes.map natV)) ∧ H wt = some (.lst (wait.map V.bl)) ∧ szs ≠ wt ∧
  old < wait.length ∧ sizes.length = wait.length + 1 ∧ wait.length ≤ 1000000 ∧
  ∀ (H' : Hp) (c : Nat), (c = wait.length ∨ (c = old ∧ ¬ wv wait old)) → Keep (fun b => b = wt) H H' → H' wt = some (.lst (((wait ++ [false]).set c true).map V.bl)) → Q (.int (c : Int)) H'
theorem ok_look {f : Addr} {fd : FuncData} (F : Fun K "look_again" "look_again" sLook f fd) (T : Mg mg) : FnOk P w K mg base CX0 1 f fd ["old", "sizes", "waiting"] (spLook K) := by
  refine F.ok scLook (fun vs H Q E h => ?_) (fun cdv A outer s H vs Q E hr h => ?_)
  · obtain ⟨szs, wt, old, sizes, wait, rfl, _⟩ := h
    rfl
  · obtain ⟨szs, wt, old, sizes, wait, rfl, h1, h2, n1, ho, hl, hw, k⟩ := h
    refine ⟨_, (pss_cons (ps_set (i := 3) scLook.nd rfl (.inl rfl) (pe_callB (r := rLen K) call_len_seq (by rfl) T.len PySem.boot_len (pa_cons (pv 2) pa_nil)))
      (pss_cons (ps_expr (pe_bm PySem.F.plainAttrs_list PySem.F.slot_list_append PySem.F.type_list_append mt_append (pv 2) (pa_cons pe_bl pa_nil)))
      (pss_cons (ps_set (i := 4) scLook.nd rfl (.inl rfl) (pe_ifExp (PW.pt (pw_or (pt_val (pe_ix (r := rIxL K) ix_list (pv 2) (pv 0) (fun _ _ => rfl))) (pw_or1 (pt_cmpR op_le (pe_ix (r := rIxL K) ix_list (pv 1) (pv 3) (fun _ _ => rfl)) (pe_ix (r := rIxL K) ix_list (pv 1) (pv 0) (fun _ _ => rfl)) (nomark _))))) (pv 3) (pv 0)))
      (pss_cons (ps_asg pe_bl (pg_sub (pv 2) (pv 4) set_list))
      (pss_one (ps_ret (pv 4))))))), ?_⟩
    refine ⟨_, rfl, wt, _, rfl, .inl (SqL.of h2), ?_⟩
    refine ⟨_, rfl, .inl ⟨rfl, _, SqL.of h2⟩, wt, _, _, rfl, rfl, h2, small9 (by rw [List.length_map]; exact hw), ?_⟩
    have ew : wait.map V.bl ++ [V.bl false] = (wait ++ [false]).map V.bl := by
      rw [List.map_append]
      rfl
    rw [ew, List.length_map]
    have g1 : (upd H wt (.lst ((wait ++ [false]).map V.bl))) szs = some (.lst (sizes.map natV)) := by rw [upd_ne n1]; exact h1
    have g2 : (upd H wt (.lst ((wait ++ [false]).map V.bl))) wt = some (.lst ((wait ++ [false]).map V.bl)) := upd_same
    have hwo : ((wait ++ [false]).map V.bl)[old]? = some (.bl (wait.getD old false)) := by
      rw [List.getElem?_map, List.getElem?_append_left ho, getD_at ho, List.getElem?_eq_getElem ho]
      rfl
    have kp : ∀ o, Keep (fun b => b = wt) H (upd (upd H wt (.lst ((wait ++ [false]).map V.bl))) wt o) := fun o b u nb e => by
      rw [upd_ne nb, upd_ne nb]
      exact e
    have fin : ∀ c : Nat, (c = wait.length ∨ (c = old ∧ ¬ wv wait old)) → Q (.int (c : Int)) (upd (upd H wt (.lst ((wait ++ [false]).map V.bl))) wt (.lst (((wait ++ [false]).map V.bl).set c (.bl true)))) := fun c hc => k _ c hc (kp _) (by rw [upd_same, List.map_set])
    have set_ : ∀ c : Nat, c ≤ wait.length → ixN ((wait ++ [false]).map V.bl).length (c : Int) = some c := fun c hc => Evl.ixN_nat (by rw [List.length_map, List.length_append, List.length_singleton]; omega)
    refine ⟨_, rfl, _, rfl, wt, _, (old : Int), _, rfl, rfl, SqL.of g2, atI_nat hwo, _, rfl, ?_⟩
    cases hb : wait.getD old false with
    | true =>
      exact ⟨_, rfl, _, rfl, _, rfl, wt, _, (wait.length : Int), wait.length, rfl, rfl, g2, set_ _ (Nat.le_refl _), _, rfl, fin _ (.inl rfl)⟩
    | false =>
      have nw : ¬ wv wait old := fun q => by
        unfold wv at q
        rw [hb] at q
        cases q
      have s1 : (sizes.map natV)[wait.length]? = some (.int ((sizes.getD wait.length 0 : Nat) : Int)) := natV_get (by rw [getD_at (show wait.length < sizes.length by omega)]; exact List.getElem?_eq_getElem (show wait.length < sizes.length by omega))
      have s2 : (sizes.map natV)[old]? = some (.int ((sizes.getD old 0 : Nat) : Int)) := natV_get (by rw [getD_at (show old < sizes.length by omega)]; exact List.getElem?_eq_getElem (show old < sizes.length by omega))
      refine ⟨_, rfl, _, rfl, szs, _, (wait.length : Int), _, rfl, rfl, SqL.of g1, atI_nat s1, _, rfl, _, rfl, szs, _, (old : Int), _, rfl, rfl, SqL.of g1, atI_nat s2, _, _, rfl, rfl, _, rfl, ite2 (fun _ => ?_) (fun _ => ?_)⟩
      · exact ⟨_, rfl, _, rfl, _, rfl, wt, _, (wait.length : Int), wait.length, rfl, rfl, g2, set_ _ (Nat.le_refl _), _, rfl, fin _ (.inl rfl)⟩
      · exact ⟨_, rfl, _, rfl, _, rfl, wt, _, (old : Int), old, rfl, rfl, g2, set_ _ (by omega), _, rfl, fin _ (.inr ⟨rfl, nw⟩)⟩
end
/-! ### the ways backwards, as they lie -/
structure BA (H : Hp) (bf : Addr) (ws : List Addr) (cs : List (List Addr)) (L n : Nat) (f : Nat → Nat → List Nat) : Prop where
  wl : ws.length = L
  cl : cs.length = L
  top : H bf = some (.lst (ws.map V.ref))
  mid : ∀ (c : Nat) (w : Addr) (cc : List Addr), ws[c]? = some w → cs[c]? = some cc → H w = some (.lst (cc.map V.ref)) ∧ cc.length = n
  low : ∀ (c t : Nat) (cc : List Addr) (a : Addr), cs[c]? = some cc → cc[t]? = some a → H a = some (.lst ((f c t).map natV))
/-- which addresses these are -/
def BAd (bf : Addr) (ws : List Addr) (cs : List (List Addr)) (a : Addr) : Prop := a = bf ∨ a ∈ ws ∨ ∃ cc ∈ cs, a ∈ cc
theorem BA.keep {H H' : Hp} {bf : Addr} {ws : List Addr} {cs : List (List Addr)} {L n : Nat} {f : Nat → Nat → List Nat} (h : BA H bf ws cs L n f) {W : Addr → Prop} (k : Keep W H H') (nw : ∀ a, BAd bf ws cs a → ¬ W a) : BA H' bf ws cs L n f where
  wl := h.wl
  cl := h.cl
  top := k _ _ (nw _ (.inl rfl)) h.top
  mid := fun c w cc hw hc => by
    obtain ⟨h1, h2⟩ := h.mid c w cc hw hc
    exact ⟨k _ _ (nw _ (.inr (.inl (List.mem_of_getElem? hw)))) h1, h2⟩
  low := fun c t cc a hc ha => k _ _ (nw _ (.inr (.inr ⟨cc, List.mem_of_getElem? hc, List.mem_of_getElem? ha⟩))) (h.low c t cc a hc ha)
theorem BA.same {H H' : Hp} {bf : Addr} {ws : List Addr} {cs : List (List Addr)} {L n : Nat} {f : Nat → Nat → List Nat} (h : BA H bf ws cs L n f) (s : Same H H') : BA H' bf ws cs L n f := h.keep (W := fun _ => False) (Keep.same s) (fun _ _ z => z)
/-- the cells that are being laid -/
structure Cells (H0 H : Hp) (D : Addr) (as : List Addr) : Prop where
  sm : Same H0 H
  top : H D = some (.lst (as.map V.ref))
  low : ∀ a ∈ as, H a = some (.lst []) ∧ H0 a = none
  nd : as.Nodup
  no : D ∉ as
structure Ways (H0 H : Hp) (D : Addr) (n : Nat) (ws : List Addr) (cs : List (List Addr)) : Prop where
  sm : Same H0 H
  top : H D = some (.lst (ws.map V.ref))
  ln : ws.length = cs.length
  mid : ∀ (c : Nat) (w : Addr) (cc : List Addr), ws[c]? = some w → cs[c]? = some cc → H w = some (.lst (cc.map V.ref)) ∧ cc.length = n
  low : ∀ (cc : List Addr) (a : Addr), cc ∈ cs → a ∈ cc → H a = some (.lst []) ∧ H0 a = none
  fw : ∀ w ∈ ws, H0 w = none
  nd : cs.flatten.Nodup
  nw : ∀ a ∈ cs.flatten, a ∉ ws ∧ a ≠ D
  dw : D ∉ ws
theorem ite_iff {p q : Prop} [Decidable p] [Decidable q] {α : Type} {a b : α} (h : p ↔ q) : (if p then a else b) = if q then a else b := by
  by_cases z : p
  · rw [if_pos z, if_pos (h.mp z)]
  · rw [if_neg z, if_neg (fun y => z (h.mpr y))]
theorem sfree {H H' : Hp} {p : Addr} (s : Same H H') (h : H' p = none) : H p = none := by
  cases e : H p with
  | none => rfl
  | some o =>
    rw [s _ _ e] at h
    cases h
theorem Cells.step {H0 H : Hp} {D a : Addr} {as : List Addr} (h : Cells H0 H D as) (nD : H0 D = none) (na : H a = none) : Cells H0 (upd (upd H a (.lst [])) D (.lst (as.map V.ref ++ [.ref a]))) D (as ++ [a]) := by
  have aD : a ≠ D := fun z => by rw [z, h.top] at na; cases na
  have nas : ∀ x ∈ as, x ≠ a := fun x hx z => by rw [← z, (h.low x hx).1] at na; cases na
  have nad : ∀ x ∈ as, x ≠ D := fun x hx z => h.no (z ▸ hx)
  refine ⟨fun b u e => ?_, by rw [upd_same, List.map_append]; rfl, fun x hx => ?_, ?_, fun q => ?_⟩
  · have h1 := h.sm _ _ e
    rw [upd_ne (ne_of_none e nD), upd_ne (ne_of_none h1 na)]
    exact h1
  · rcases List.mem_append.mp hx with hx | hx
    · obtain ⟨h1, h2⟩ := h.low x hx
      exact ⟨by rw [upd_ne (nad x hx), upd_ne (nas x hx)]; exact h1, h2⟩
    · rw [List.mem_singleton.mp hx]
      exact ⟨by rw [upd_ne aD, upd_same], sfree h.sm na⟩
  · rw [List.nodup_append]
    refine ⟨h.nd, List.nodup_cons.mpr ⟨List.not_mem_nil, List.nodup_nil⟩, fun x hx y hy => ?_⟩
    rw [List.mem_singleton.mp hy]
    exact nas x hx
  · rcases List.mem_append.mp q with q | q
    · exact h.no q
    · exact aD (List.mem_singleton.mp q).symm
theorem Ways.step {H0 H1 H2 : Hp} {D D2 : Addr} {n : Nat} {ws : List Addr} {cs : List (List Addr)} {as : List Addr} (h : Ways H0 H1 D n ws cs) (g : Cells H1 H2 D2 as) (nD : H0 D = none) (nD2 : H1 D2 = none) (hl : as.length = n) :
    Ways H0 (upd H2 D (.lst (ws.map V.ref ++ [.ref D2]))) D n (ws ++ [D2]) (cs ++ [as]) := by
  have dd : D2 ≠ D := fun z => by rw [z, h.top] at nD2; cases nD2
  have wS : ∀ w ∈ ws, ∃ o, H1 w = some o := fun w hw => by
    obtain ⟨c, hc⟩ := List.mem_iff_getElem?.mp hw
    have l := (List.getElem?_eq_some_iff.mp hc).1
    exact ⟨_, (h.mid c w _ hc (List.getElem?_eq_getElem (by rw [← h.ln]; exact l))).1⟩
  have oldS : ∀ a ∈ cs.flatten, H1 a = some (.lst []) := fun a ha => by
    obtain ⟨cc, h1, h2⟩ := List.mem_flatten.mp ha
    exact (h.low cc a h1 h2).1
  have nas : ∀ a ∈ as, a ≠ D := fun a ha z => by
    have := (g.low a ha).2
    rw [z, h.top] at this
    cases this
  have fl : (cs ++ [as]).flatten = cs.flatten ++ as := by simp
  refine ⟨fun b u e => ?_, by rw [upd_same, List.map_append]; rfl, by rw [List.length_append, List.length_append, h.ln]; rfl, fun c w cc hw hc => ?_, fun cc a hcc ha => ?_, fun w hw => ?_, ?_, fun a ha => ?_, fun q => ?_⟩
  · rw [upd_ne (ne_of_none e nD)]
    exact g.sm _ _ (h.sm _ _ e)
  · rcases Nat.lt_or_ge c ws.length with l | l
    · rw [List.getElem?_append_left l] at hw
      rw [List.getElem?_append_left (by rw [← h.ln]; exact l)] at hc
      obtain ⟨h1, h2⟩ := h.mid c w cc hw hc
      exact ⟨by rw [upd_ne (show w ≠ D from fun z => h.dw (by rw [← z]; exact List.mem_of_getElem? hw))]; exact g.sm _ _ h1, h2⟩
    · have l2 := (List.getElem?_eq_some_iff.mp hw).1
      rw [List.length_append, List.length_singleton] at l2
      have e : c = ws.length := by omega
      rw [e, List.getElem?_append_right (Nat.le_refl _), Nat.sub_self] at hw
      rw [e, h.ln, List.getElem?_append_right (Nat.le_refl _), Nat.sub_self] at hc
      cases hw
      cases hc
      exact ⟨by rw [upd_ne dd]; exact g.top, hl⟩
  · rcases List.mem_append.mp hcc with hcc | hcc
    · obtain ⟨h1, h2⟩ := h.low cc a hcc ha
      exact ⟨by rw [upd_ne (h.nw a (List.mem_flatten.mpr ⟨cc, hcc, ha⟩)).2]; exact g.sm _ _ h1, h2⟩
    · rw [List.mem_singleton.mp hcc] at ha
      obtain ⟨h1, h2⟩ := g.low a ha
      exact ⟨by rw [upd_ne (nas a ha)]; exact h1, sfree h.sm h2⟩
  · rcases List.mem_append.mp hw with hw | hw
    · exact h.fw w hw
    · rw [List.mem_singleton.mp hw]
      exact sfree h.sm nD2
  · rw [fl, List.nodup_append]
    refine ⟨h.nd, g.nd, fun x hx y hy e => ?_⟩
    have h1 := oldS x hx
    rw [e, (g.low y hy).2] at h1
    cases h1
  · rw [fl] at ha
    rcases List.mem_append.mp ha with ha | ha
    · refine ⟨fun q => ?_, (h.nw a ha).2⟩
      rcases List.mem_append.mp q with q | q
      · exact (h.nw a ha).1 q
      · have h1 := oldS a ha
        rw [List.mem_singleton.mp q, nD2] at h1
        cases h1
    · refine ⟨fun q => ?_, nas a ha⟩
      rcases List.mem_append.mp q with q | q
      · obtain ⟨o, h1⟩ := wS a q
        rw [(g.low a ha).2] at h1
        cases h1
      · exact g.no ((List.mem_singleton.mp q) ▸ ha)
  · rcases List.mem_append.mp q with q | q
    · exact h.dw q
    · exact dd (List.mem_singleton.mp q).symm
theorem flat_one : ∀ {cs : List (List Addr)} {c c' t t' : Nat} {cc cc' : List Addr} {a : Addr}, cs.flatten.Nodup → cs[c]? = some cc → cs[c']? = some cc' → cc[t]? = some a → cc'[t']? = some a → c = c' ∧ t = t'
  | [], _, _, _, _, _, _, _, _, h, _, _, _ => by cases h
  | x :: cs, c, c', t, t', cc, cc', a, nd, h1, h2, h3, h4 => by
    rw [List.flatten_cons, List.nodup_append] at nd
    obtain ⟨n1, n2, n3⟩ := nd
    have inT : ∀ {c : Nat} {cc : List Addr}, cs[c]? = some cc → a ∈ cc → a ∈ cs.flatten := fun h m => List.mem_flatten.mpr ⟨_, List.mem_of_getElem? h, m⟩
    match c, c', h1, h2 with
    | 0, 0, h1, h2 =>
      cases h1
      cases h2
      have l := (List.getElem?_eq_some_iff.mp h3).1
      exact ⟨rfl, (List.getElem?_inj l n1).mp (h3.trans h4.symm)⟩
    | 0, c' + 1, h1, h2 =>
      cases h1
      exact absurd rfl (n3 a (List.mem_of_getElem? h3) a (inT h2 (List.mem_of_getElem? h4)))
    | c + 1, 0, h1, h2 =>
      cases h2
      exact absurd rfl (n3 a (List.mem_of_getElem? h4) a (inT h1 (List.mem_of_getElem? h3)))
    | c + 1, c' + 1, h1, h2 =>
      obtain ⟨e1, e2⟩ := flat_one n2 h1 h2 h3 h4
      exact ⟨congrArg (· + 1) e1, e2⟩
theorem Ways.ba {H0 H : Hp} {D : Addr} {n L : Nat} {ws : List Addr} {cs : List (List Addr)} (h : Ways H0 H D n ws cs) (hl : ws.length = L) : BA H D ws cs L n (fun _ _ => []) :=
  ⟨hl, by rw [← h.ln]; exact hl, h.top, h.mid, fun c t cc a hc ha => (h.low cc a (List.mem_of_getElem? hc) (List.mem_of_getElem? ha)).1⟩
theorem BA.add {H : Hp} {D : Addr} {n L : Nat} {ws : List Addr} {cs : List (List Addr)} {f f' : Nat → Nat → List Nat} (h : BA H D ws cs L n f) (nd : cs.flatten.Nodup) (nw : ∀ a ∈ cs.flatten, a ∉ ws ∧ a ≠ D) {c t : Nat} {cc : List Addr} {a : Addr} (hc : cs[c]? = some cc) (ha : cc[t]? = some a)
    (hf : ∀ c' t', f' c' t' = if c' = c ∧ t' = t then f' c t else f c' t') : BA (upd H a (.lst ((f' c t).map natV))) D ws cs L n f' := by
  have am : a ∈ cs.flatten := List.mem_flatten.mpr ⟨cc, List.mem_of_getElem? hc, List.mem_of_getElem? ha⟩
  obtain ⟨aw, aD⟩ := nw a am
  refine ⟨h.wl, h.cl, by rw [upd_ne aD.symm]; exact h.top, fun c' w cc' h1 h2 => ?_, fun c' t' cc' a' h1 h2 => ?_⟩
  · obtain ⟨g1, g2⟩ := h.mid c' w cc' h1 h2
    exact ⟨by rw [upd_ne (show w ≠ a from fun z => aw (by rw [← z]; exact List.mem_of_getElem? h1))]; exact g1, g2⟩
  · by_cases e : a' = a
    · subst e
      obtain ⟨e1, e2⟩ := flat_one nd h1 hc h2 ha
      rw [e1, e2, upd_same]
    · rw [upd_ne e, hf, if_neg]
      · exact h.low c' t' cc' a' h1 h2
      · rintro ⟨rfl, rfl⟩
        rw [hc] at h1
        cases h1
        rw [ha] at h2
        exact e (Option.some.inj h2).symm

section
variable {P : Program} {w : World} {K : PySem.W.Frag} {mg : Str → Option Value} {base : Heap}
theorem scSources : FnScope ["letters", "rows", "order", "before", "_", "state", "letter", "target"] ["letters", "rows", "order"] (defScope sSources) := ⟨rfl, rfl, rfl, by decide +kernel, rfl, by decide +kernel, by decide +kernel⟩
def spSources : Sp := fun vs H Q _ => ∃ (L : Nat) (rs : Rows) (t u : Bool) (pr od : Addr) (rvs : List V) (ord : List Nat), vs = [.int (L : Int), .ref pr, .ref od] ∧ GOk L rs ∧ GA H L rs t u pr rvs ∧ H od = some (.lst (ord.map natV)) ∧ (∀ u ∈ ord, u < rs.length) ∧ ord.length ≤ 200000 ∧
  ∀ (H' : Hp) (bf : Addr) (ws : List Addr) (cs : List (List Addr)), Same H H' → (∀ a, BAd bf ws cs a → H a = none) → BA H' bf ws cs L rs.length (fun c t => ord.filter fun s => decide (nx rs s c = some t)) → Q (.ref bf) H'
theorem ok_sources {f : Addr} {fd : FuncData} (F : Fun K "sources" "sources" sSources f fd) (T : Mg mg) : FnOk P w K mg base CX0 1 f fd ["letters", "rows", "order"] spSources := by
  refine F.ok scSources (fun vs H Q E h => ?_) (fun cdv A outer s H vs Q E hr h => ?_)
  · obtain ⟨L, rs, kt, ku, pr, od, rvs, ord, rfl, _⟩ := h
    rfl
  · obtain ⟨L, rs, kt, ku, pr, od, rvs, ord, rfl, M, MM, hod, olt, ol4, k⟩ := h
    have l4 := M.lN
    have L3 := M.L3
    refine ⟨_, (pss_cons (ps_setLc (i := 3) (own := [("_", 4)]) (g := gName 4) (tt := tYes) rfl scSources.nd rfl rfl (sw_true rfl rfl rfl (by decide +kernel)) (pi_range1 (by rfl) T.range (pa_cons (pv 0) pa_nil)) (blkOk_by (N := ["letters", "rows", "order", "before", "_", "state", "letter", "target"]) (sc := defScope sSources) (by decide +kernel)) (fun _ _ _ _ _ => pg_name (i := 4) scSources.nd rfl (Or.inl rfl)) (fun _ _ _ _ _ => pts_nil) (fun _ _ _ _ _ => (pe_lc (wi := iSeq K _) (own := [("_", 4)]) (g := gName 4) (tt := tYes) rfl scSources.nd (pi_seq (pv 1)) (blkOk_by (by kernel_rfl)) (fun _ _ _ _ _ => pg_name (i := 4) scSources.nd rfl (Or.inl rfl)) (fun _ _ _ _ _ => pts_nil) (fun _ _ _ _ _ => (pe_lst pa_nil)))))
      (pss_cons (ps_for PassesOwn.never rfl (pi_list (pv 2)) (pg_name (i := 5) scSources.nd rfl (.inl rfl)) (pss_one (ps_for PassesOwn.never rfl (pi_enumQ (by rfl) T.enum (pa_cons (pe_ix (r := rIxQ) ix_any (pv 1) (pv 5) (fun _ _ => rfl)) pa_nil)) (pg_tup rfl (pgs_cons (pg_name (i := 6) scSources.nd rfl (.inl rfl)) (pgs_cons (pg_name (i := 7) scSources.nd rfl (.inl rfl)) pgs_nil))) (pss_one (ps_if (pt_cmp (pc_notN (pv 7))) (pss_one (ps_expr (pe_bm PySem.F.plainAttrs_list PySem.F.slot_list_append PySem.F.type_list_append mt_append (pe_ix (r := rIxL K) ix_list (pe_ix (r := rIxL K) ix_list (pv 3) (pv 6) (fun _ _ => rfl)) (pv 7) (fun _ _ => rfl)) (pa_cons (pv 5) pa_nil)))) pss_nil)))))
      (pss_one (ps_ret (pv 3))))), ?_⟩
    refine ⟨_, rfl, (L : Int), rfl, by omega, by omega, fun D nD => ?_⟩
    refine lc_range (lo := 0) (n := (L : Int).toNat) (fun j H' => ∃ ws cs, Ways H H' D rs.length ws cs ∧ ws.length = j) ⟨[], [], ⟨same_new nD, upd_same, rfl, (fun c w cc h => by cases h), fun cc a h => absurd h List.not_mem_nil, fun w h => absurd h List.not_mem_nil, List.nodup_nil, fun a h => absurd h List.not_mem_nil, List.not_mem_nil⟩, rfl⟩ ?_ ?_
    · rintro j H1 hj ⟨ws, cs, W1, lw⟩
      have MM1 := MM.same W1.sm
      refine ⟨rfl, _, rfl, kt, pr, _, rfl, MM1.hr, fun D2 nD2 => ?_⟩
      refine lc_seq (t := kt) (K := K) (a := pr) (xs := rvs) (fun i H' => ∃ as, Cells H1 H' D2 as ∧ as.length = i) ⟨[], ⟨same_new nD2, upd_same, fun a h => absurd h List.not_mem_nil, List.nodup_nil, List.not_mem_nil⟩, rfl⟩ (fun i H' _ q => by
        obtain ⟨as, C, _⟩ := q
        exact (MM1.same C.sm).hr) ?_ ?_
      · rintro i x H2 hx ⟨as, C, la⟩
        have hi := (List.getElem?_eq_some_iff.mp hx).1
        rw [MM.hl] at hi
        refine ⟨rfl, by show 0 ≤ sizeLine; decide, fun a na => ?_⟩
        have aD : D2 ≠ a := fun z => by rw [← z, C.top] at na; cases na
        exact ⟨_, by rw [upd_ne aD]; exact C.top, (by rw [List.length_map]; exact Nat.lt_of_lt_of_le (show as.length < 1000000 by omega) (by decide)), as ++ [a], C.step nD2 na, by rw [List.length_append, la]; rfl⟩
      · rintro H2 ⟨as, C, la⟩
        exact ⟨_, C.sm _ _ W1.top, small1000 (by rw [List.length_map]; omega), ws ++ [D2], cs ++ [as], W1.step C nD nD2 (by rw [la]; exact MM.hl), by rw [List.length_append, lw]; rfl⟩
    · rintro H1 ⟨ws, cs, W1, lw⟩
      rw [Int.toNat_natCast] at lw
      have B1 := W1.ba lw
      have hod1 := W1.sm _ _ hod
      have nwo : ∀ a, BAd D ws cs a → H a = none := fun a z => by
        rcases z with rfl | z | ⟨cc, h1, h2⟩
        · exact nD
        · exact W1.fw a z
        · exact (W1.low cc a h1 h2).2
      refine ⟨_, rfl, od, rfl, ⟨_, SqL.of hod1⟩, ?_⟩
      refine for_list (K := K) (a := od) (xs := ord.map natV) (fun i σ H' => (∃ y5 y6 y7 : Option V, σ = [some (.int (L : Int)), some (.ref pr), some (.ref od), some (.ref D), none, y5, y6, y7]) ∧ Same H H' ∧ BA H' D ws cs L rs.length (fun c t => (ord.take i).filter fun s => decide (nx rs s c = some t)))
        ⟨⟨_, _, _, rfl⟩, W1.sm, B1⟩ (fun i σ H' _ p => SqL.of (p.2.1 _ _ hod)) ?_ (fun σ H' p => ?_)
      · rintro i x σ H2 hx ⟨⟨y5, y6, y7, rfl⟩, sm, Bi⟩
        obtain ⟨u, hu, rfl⟩ := natV_of hx
        have hun := olt u (List.mem_of_getElem? hu)
        have hrow : rs[u]? = some rs[u] := List.getElem?_eq_getElem hun
        have hmr := List.getElem_mem hun
        have hnx : ∀ c, nx rs u c = (rs[u]).getD c none := fun c => by
          unfold nx
          rw [getD_at hun]
        generalize rs[u] = row at *
        obtain ⟨q, hq1, hq0⟩ := MM.row u row hrow
        have tk : ord.take (i + 1) = ord.take i ++ [u] := by rw [List.take_add_one, hu]; rfl
        refine ⟨_, rfl, _, rfl, kt, pr, rvs, (u : Int), _, rfl, rfl, MM.hr.same sm, atI_nat hq1, ku, q, _, rfl, hq0.same sm, ?_⟩
        refine for_it (walk_enumQ (t := ku) (K := K) (a := q) (xs := row.map oV)) (fun j σ H' => (∃ y6 y7 : Option V, σ = [some (.int (L : Int)), some (.ref pr), some (.ref od), some (.ref D), none, some (.int (u : Int)), y6, y7]) ∧ Same H H' ∧ ∃ f, BA H' D ws cs L rs.length f ∧ ∀ c t, f c t = ((ord.take i).filter fun s => decide (nx rs s c = some t)) ++ if c < j ∧ nx rs u c = some t then [u] else [])
          ⟨⟨_, _, rfl⟩, sm, _, Bi, fun c t => by rw [if_neg (by omega), List.append_nil]⟩ (fun j σ H' _ p => hq0.same p.2.1) ?_ ?_
        · rintro j x σ H3 H4 hj ⟨⟨y6, y7, rfl⟩, sm3, f, Bf, hf⟩ ⟨T1, va, vb, rfl, nT, rfl, ea, eb2⟩
          cases ea
          replace eb2 : (row.map oV)[j]? = some vb := eb2
          rw [List.getElem?_map] at eb2
          obtain ⟨tg, hjt, rfl⟩ := Option.map_eq_some_iff.mp eb2
          have sT := same_new (o := .tup [V.int (j : Nat), oV tg]) nT
          have nxj : nx rs u j = tg := by rw [hnx, List.getD_eq_getElem?_getD, hjt]; rfl
          have jL : j < L := by
            have := (List.getElem?_eq_some_iff.mp hjt).1
            rw [M.row row hmr] at this
            exact this
          have Bf := Bf.same sT
          have sm4 := sm3.trans sT
          refine ⟨T1, _, rfl, SqT.of upd_same, rfl, _, _, rfl, _, _, rfl, rfl, ?_⟩
          generalize upd H3 T1 (.tup [V.int (j : Nat), oV tg]) = G at *
          refine ⟨_, rfl, _, rfl, ?_⟩
          cases tg with
          | none =>
            refine ⟨⟨_, _, rfl⟩, sm4, f, Bf, fun c t => ?_⟩
            rw [hf]
            congr 1
            by_cases e : c = j
            · rw [e, nxj, if_neg (by rintro ⟨_, z⟩; cases z), if_neg (by rintro ⟨_, z⟩; cases z)]
            · have : (c < j + 1 ∧ nx rs u c = some t) ↔ (c < j ∧ nx rs u c = some t) := by
                constructor
                · rintro ⟨a1, a2⟩
                  exact ⟨by omega, a2⟩
                · rintro ⟨a1, a2⟩
                  exact ⟨by omega, a2⟩
              exact ite_iff this.symm
          | some t =>
            have tl := M.tgt row hmr t (List.mem_of_getElem? hjt)
            obtain ⟨w0, hw⟩ : ∃ w0, ws[j]? = some w0 := ⟨_, List.getElem?_eq_getElem (by rw [lw]; exact jL)⟩
            obtain ⟨cc, hcc⟩ : ∃ cc, cs[j]? = some cc := ⟨_, List.getElem?_eq_getElem (by rw [Bf.cl]; exact jL)⟩
            obtain ⟨g1, g2⟩ := Bf.mid j w0 cc hw hcc
            obtain ⟨a, hca⟩ : ∃ a, cc[t]? = some a := ⟨_, List.getElem?_eq_getElem (by rw [g2]; exact tl)⟩
            have g3 := Bf.low j t cc a hcc hca
            have fe : f j t = ((ord.take i).filter fun s => decide (nx rs s j = some t)) := by rw [hf, if_neg (by omega), List.append_nil]
            have fl : (f j t).length ≤ 200000 := by
              rw [fe]
              refine Nat.le_trans (List.length_filter_le _ _) ?_
              rw [List.length_take]
              omega
            have am : BAd D ws cs a := .inr (.inr ⟨cc, List.mem_of_getElem? hcc, List.mem_of_getElem? hca⟩)
            refine ⟨_, rfl, _, rfl, D, _, (j : Int), V.ref w0, rfl, rfl, SqL.of Bf.top, atI_nat (v := V.ref w0) (by rw [List.getElem?_map, hw]; rfl), _, rfl, w0, _, (t : Int), V.ref a, rfl, rfl, SqL.of g1, atI_nat (v := V.ref a) (by rw [List.getElem?_map, hca]; rfl), .inl ⟨rfl, _, SqL.of g3⟩, _, rfl, a, _, _, rfl, rfl, g3, (by rw [List.length_map]; exact Nat.lt_of_lt_of_le (show (f j t).length < 1000000 by omega) (by decide)), ?_⟩
            have ev : (f j t).map natV ++ [V.int (u : Int)] = ((fun c' t' => ((ord.take i).filter fun s => decide (nx rs s c' = some t')) ++ if c' < j + 1 ∧ nx rs u c' = some t' then [u] else []) j t).map natV := by
              show _ = (((ord.take i).filter fun s => decide (nx rs s j = some t)) ++ if j < j + 1 ∧ nx rs u j = some t then [u] else []).map natV
              rw [if_pos ⟨Nat.lt_succ_self _, nxj⟩, List.map_append, fe]
              rfl
            rw [ev]
            refine ⟨⟨_, _, rfl⟩, fun b o e => ?_, _, Bf.add (f' := fun c' t' => ((ord.take i).filter fun s => decide (nx rs s c' = some t')) ++ if c' < j + 1 ∧ nx rs u c' = some t' then [u] else []) W1.nd W1.nw hcc hca fun c' t' => ?_, fun c t => rfl⟩
            · rw [upd_ne (fun z => by rw [z, nwo a am] at e; cases e)]
              exact sm4 _ _ e
            · by_cases e : c' = j ∧ t' = t
              · rw [if_pos e, e.1, e.2]
              · rw [if_neg e, hf]
                congr 1
                have : (c' < j + 1 ∧ nx rs u c' = some t') ↔ (c' < j ∧ nx rs u c' = some t') := by
                  constructor
                  · rintro ⟨a1, a2⟩
                    refine ⟨?_, a2⟩
                    by_cases y : c' = j
                    · rw [y, nxj] at a2
                      exact absurd ⟨y, (Option.some.inj a2).symm⟩ e
                    · omega
                  · rintro ⟨a1, a2⟩
                    exact ⟨by omega, a2⟩
                exact ite_iff this
        · rintro σ H3 ⟨⟨y6, y7, rfl⟩, sm3, f, Bf, hf⟩
          refine ⟨⟨_, _, _, rfl⟩, sm3, ?_⟩
          have : f = fun c t => (ord.take (i + 1)).filter fun s => decide (nx rs s c = some t) := by
            funext c t
            rw [hf, tk, List.filter_append, List.filter_cons, List.filter_nil]
            congr 1
            by_cases e : nx rs u c = some t
            · have cl := (nx_lt M.row e).2.1
              rw [if_pos ⟨by rw [List.length_map, M.row row hmr]; exact cl, e⟩, if_pos (decide_eq_true e)]
            · rw [if_neg (fun z => e z.2), if_neg (by rw [decide_eq_true_eq]; exact e)]
          rw [← this]
          exact Bf
      · obtain ⟨⟨y5, y6, y7, rfl⟩, sm, Bi⟩ := p
        rw [List.length_map, List.take_length] at Bi
        exact ⟨_, rfl, k H' D ws cs sm nwo Bi⟩
end
/-! ### lists that a comprehension makes -/
def NInv {α : Type} (f : α → V) (xs : List α) (H : Hp) (D : Addr) (i : Nat) (H' : Hp) : Prop := Same H H' ∧ H' D = some (.lst ((xs.take i).map f))
theorem nstart {α : Type} {f : α → V} {xs : List α} {H : Hp} {D : Addr} (hD : H D = none) : NInv f xs H D 0 (upd H D (.lst [])) := ⟨same_new hD, upd_same⟩
theorem nturn {α : Type} {f : α → V} {xs : List α} {H H' H'' : Hp} {D : Addr} {i : Nat} {x : α} (hz : xs.length < sizeLine) (hD : H D = none) (hx : xs[i]? = some x) (p : NInv f xs H D i H') (s2 : Same H' H'') :
    ∃ acc, H'' D = some (.lst acc) ∧ acc.length < sizeLine ∧ NInv f xs H D (i + 1) (upd H'' D (.lst (acc ++ [f x]))) := by
  obtain ⟨sm, hl⟩ := p
  refine ⟨_, s2 _ _ hl, ?_, fun b o q => ?_, ?_⟩
  · rw [List.length_map, List.length_take]
    omega
  · rw [upd_ne (ne_of_none q hD)]
    exact s2 _ _ (sm _ _ q)
  · rw [upd_same, List.take_add_one, hx, List.map_append]
    rfl
theorem nend {α : Type} {f : α → V} {xs : List α} {H H' : Hp} {D : Addr} {n : Nat} (e : n = xs.length) (p : NInv f xs H D n H') : Same H H' ∧ H' D = some (.lst (xs.map f)) := by
  obtain ⟨sm, hl⟩ := p
  rw [e, List.take_length] at hl
  exact ⟨sm, hl⟩
/-! .. by picking some -/
def KInv {α : Type} (t : α → Bool) (f : α → V) (xs : List α) (H : Hp) (D : Addr) (i : Nat) (H' : Hp) : Prop := Same H H' ∧ H' D = some (.lst (((xs.take i).filter t).map f))
theorem kstart {α : Type} {t : α → Bool} {f : α → V} {xs : List α} {H : Hp} {D : Addr} (hD : H D = none) : KInv t f xs H D 0 (upd H D (.lst [])) := ⟨same_new hD, upd_same⟩
theorem kyes {α : Type} {t : α → Bool} {f : α → V} {xs : List α} {H H' H'' : Hp} {D : Addr} {i : Nat} {x : α} (hz : xs.length < sizeLine) (hD : H D = none) (hx : xs[i]? = some x) (ht : t x = true) (p : KInv t f xs H D i H') (s2 : Same H' H'') :
    ∃ acc, H'' D = some (.lst acc) ∧ acc.length < sizeLine ∧ KInv t f xs H D (i + 1) (upd H'' D (.lst (acc ++ [f x]))) := by
  obtain ⟨sm, hl⟩ := p
  refine ⟨_, s2 _ _ hl, ?_, fun b o q => ?_, ?_⟩
  · rw [List.length_map]
    have h1 := List.length_filter_le t (xs.take i)
    rw [List.length_take] at h1
    omega
  · rw [upd_ne (ne_of_none q hD)]
    exact s2 _ _ (sm _ _ q)
  · rw [upd_same, List.take_add_one, hx, List.filter_append, List.map_append]
    show _ = some (HO.lst (_ ++ ([x].filter t).map f))
    rw [List.filter_cons, if_pos ht]
    rfl
theorem kno {α : Type} {t : α → Bool} {f : α → V} {xs : List α} {H H' H'' : Hp} {D : Addr} {i : Nat} {x : α} (hx : xs[i]? = some x) (ht : t x = false) (p : KInv t f xs H D i H') (s2 : Same H' H'') : KInv t f xs H D (i + 1) H'' := by
  obtain ⟨sm, hl⟩ := p
  refine ⟨sm.trans s2, ?_⟩
  rw [s2 _ _ hl, List.take_add_one, hx, List.filter_append, List.map_append]
  show _ = some (HO.lst (_ ++ ([x].filter t).map f))
  rw [List.filter_cons, if_neg (by rw [ht]; exact Bool.false_ne_true)]
  simp
theorem kend {α : Type} {t : α → Bool} {f : α → V} {xs : List α} {H H' : Hp} {D : Addr} {n : Nat} (e : n = xs.length) (p : KInv t f xs H D n H') : Same H H' ∧ H' D = some (.lst ((xs.filter t).map f)) := by
  obtain ⟨sm, hl⟩ := p
  rw [e, List.take_length] at hl
  exact ⟨sm, hl⟩

/-! ### the dict of numbers, by the order in which they came -/
def numKv (k : Nat) : List Nat → List (Key × V)
  | [] => []
  | b :: bs => (.inl (b : Int), .int (k : Int)) :: numKv (k + 1) bs
theorem numKv_len : ∀ (nums : List Nat) (k : Nat), (numKv k nums).length = nums.length
  | [], _ => rfl
  | b :: bs, k => congrArg (· + 1) (numKv_len bs (k + 1))
theorem numKv_snoc : ∀ (nums : List Nat) (k b : Nat), numKv k (nums ++ [b]) = numKv k nums ++ [(.inl (b : Int), .int ((k + nums.length : Nat) : Int))]
  | [], k, b => rfl
  | c :: bs, k, b => by
    show (_ :: numKv (k + 1) (bs ++ [b])) = _ :: (numKv (k + 1) bs ++ _)
    rw [numKv_snoc bs (k + 1) b, List.length_cons, show k + 1 + bs.length = k + (bs.length + 1) by omega]
theorem inl_ne {a b : Nat} (h : a ≠ b) : (Sum.inl (a : Int) : Key) ≠ .inl (b : Int) := fun e => h (by have := Sum.inl.inj e; omega)
theorem numKv_any : ∀ (nums : List Nat) (k b : Nat), b ∉ nums → (numKv k nums).any (fun kv => decide (kv.1 = (.inl (b : Int) : Key))) = false
  | [], _, _, _ => rfl
  | c :: bs, k, b, h => by
    show (decide ((.inl (c : Int) : Key) = .inl (b : Int)) || (numKv (k + 1) bs).any _) = false
    rw [decide_eq_false (inl_ne (a := c) (b := b) fun e => h (by rw [e]; exact List.mem_cons_self)), numKv_any bs (k + 1) b (fun q => h (List.mem_cons_of_mem c q))]
    rfl
theorem numKv_no {nums : List Nat} {k b : Nat} (h : b ∉ nums) : valV (numKv k nums) (.inl (b : Int)) = none := by
  unfold valV
  have := numKv_any nums k b h
  rw [List.any_eq_false] at this
  rw [List.find?_eq_none.mpr fun x hx => this x hx]
  rfl
theorem numKv_at : ∀ (nums : List Nat) (k j b : Nat), nums.Nodup → nums[j]? = some b → valV (numKv k nums) (.inl (b : Int)) = some (.int ((k + j : Nat) : Int))
  | [], _, _, _, _, h => by cases h
  | c :: bs, k, 0, b, _, h => by
    cases h
    unfold valV
    show Option.map _ (List.find? _ ((.inl (c : Int), .int (k : Int)) :: numKv (k + 1) bs)) = _
    rw [List.find?_cons_of_pos (by exact decide_eq_true rfl)]
    rfl
  | c :: bs, k, j + 1, b, nd, h => by
    obtain ⟨n1, n2⟩ := List.nodup_cons.mp nd
    have h' : bs[j]? = some b := h
    have ne : c ≠ b := fun e => n1 (e ▸ List.mem_of_getElem? h')
    have ih := numKv_at bs (k + 1) j b n2 h'
    unfold valV at ih ⊢
    show Option.map _ (List.find? _ ((.inl (c : Int), .int (k : Int)) :: numKv (k + 1) bs)) = _
    rw [List.find?_cons_of_neg (by rw [decide_eq_true_eq]; exact inl_ne ne), ih, show k + 1 + j = k + (j + 1) by omega]
theorem numKv_put {nums : List Nat} {b : Nat} (h : b ∉ nums) : putK (numKv 0 nums) (.inl (b : Int)) (.int ((nums.length : Nat) : Int)) = numKv 0 (nums ++ [b]) := by
  unfold putK
  rw [if_neg (by rw [numKv_any nums 0 b h]; exact Bool.false_ne_true), numKv_snoc, Nat.zero_add]
theorem oV_at {block : List (Option Nat)} {t : Nat} (h : t < block.length) : (block.map oV)[t]? = some (oV (bv block t)) := by
  unfold bv
  rw [List.getElem?_map, getD_at h, List.getElem?_eq_getElem h]
  rfl
theorem keep_store {B : Addr → Prop} {H : Hp} {p : Addr} {o : HO} (hp : B p) : Keep B H (upd H p o) := fun b u nb e => by
  rw [upd_ne (show b ≠ p from fun z => nb (by rw [z]; exact hp))]
  exact e
theorem rd_keep {H : Hp} {a : Addr} {xs : List V} {o : HO} {p : Addr} (h : Rd H a (.tup xs)) (hp : H p = some o) (no : ∀ ys, o ≠ .tup ys) (nf : ∀ ob ys, o ≠ .frz ob (.tup ys)) {u : HO} : Rd (upd H p u) a (.tup xs) := by
  have ne : a ≠ p := fun z => by
    rw [z] at h
    rcases h with h | ⟨ob, h⟩
    · rw [hp] at h
      exact no _ (Option.some.inj h)
    · rw [hp] at h
      exact nf _ _ (Option.some.inj h)
  rcases h with h | ⟨ob, h⟩
  · exact .inl (by rw [upd_ne ne]; exact h)
  · exact .inr ⟨ob, by rw [upd_ne ne]; exact h⟩

section
variable {P : Program} {w : World} {K : PySem.W.Frag} {mg : Str → Option Value} {base : Heap}
theorem scNumbered : FnScope ["rows", "marks", "block", "numbers", "picked", "done", "row", "state", "target", "first"] ["rows", "marks", "block"] (defScope sNumbered) := ⟨rfl, rfl, rfl, by decide +kernel, rfl, by decide +kernel, by decide +kernel⟩
def spNumbered (K : PySem.W.Frag) : Sp := fun vs H Q _ => ∃ (L : Nat) (rs : Rows) (es : List Bool) (t u : Bool) (pr mk blk : Addr) (rvs : List V) (mks : List Nat) (block : List (Option Nat)) (B : Addr → Prop), vs = [.ref pr, .ref mk, .ref blk] ∧ GOk L rs ∧ GA H L rs t u pr rvs ∧ TB B H ∧
  H mk = some (.lst (mks.map natV)) ∧ mks.length = rs.length ∧ H blk = some (.lst (block.map oV)) ∧ block.length = rs.length ∧ PB rs es L (bv block) ∧ (∃ b, bv block 0 = some b) ∧
  ∀ (H' : Hp) (r p1 p2 : Addr) (picked nums : List Nat) (done : Rws), Same H H' → Rd H' r (.tup [.ref p1, .ref p2]) → Dt B K H' (.ref p1) (.tuple (done.map rowDt)) → Rd H' p2 (.tup ((picked.map fun p => mks.getD p 0).map natV)) → NI rs L (bv block) picked nums done [] → done.length = picked.length → Q (.ref r) H'
theorem ni_lt {rs : Rws} {es : List Bool} {L : Nat} {bl : Nat → Option Nat} {picked nums : List Nat} {done : Rws} {row : List (Option Nat)} (h : NI rs L bl picked nums done row) (B : PB rs es L bl) : (∀ p ∈ picked, p < rs.length) ∧ picked.length ≤ rs.length := by
  have h1 : ∀ p ∈ picked, p < rs.length := fun p hp => by
    obtain ⟨i, hi⟩ := List.mem_iff_getElem?.mp hp
    obtain ⟨b, _, hb⟩ := h.at_ hi
    exact (B.inn p b hb).1
  refine ⟨h1, nodup_len ?_ h1⟩
  refine List.pairwise_iff_getElem.mpr fun i j hi hj l e => ?_
  obtain ⟨b, b1, b2⟩ := h.at_ (List.getElem?_eq_getElem hi)
  obtain ⟨c, c1, c2⟩ := h.at_ (List.getElem?_eq_getElem hj)
  rw [e, c2] at b2
  have := nodup_at h.nd b1 (Option.some.inj b2 ▸ c1)
  omega
theorem ok_numbered {f : Addr} {fd : FuncData} (F : Fun K "numbered" "numbered" sNumbered f fd) (T : Mg mg) : FnOk P w K mg base CX0 1 f fd ["rows", "marks", "block"] (spNumbered K) := by
  refine F.ok scNumbered (fun vs H Q E h => ?_) (fun cdv A outer s H vs Q E hr h => ?_)
  · obtain ⟨L, rs, es, kt, ku, pr, mk, blk, rvs, mks, block, B, rfl, _⟩ := h
    rfl
  · obtain ⟨L, rs, es, kt, ku, pr, mk, blk, rvs, mks, block, B, rfl, M, MM, tb, hmk, lmk, hblk, lblk, PBk, ⟨b0, hb0⟩, k⟩ := h
    have hu1 := hu_of hr
    have l4 := M.lN
    have l1 := M.l1
    refine ⟨_, (pss_cons (ps_set (i := 3) scNumbered.nd rfl (.inl rfl) (pe_disp (pps_cons (pe_ix (r := rIxL K) ix_list (pv 2) pe_int (fun _ _ => rfl)) pe_int pps_nil) (by rfl) (by rfl) (fun z => by cases z) (by decide)))
      (pss_cons (ps_set (i := 4) scNumbered.nd rfl (.inl rfl) (pe_lst (pa_cons pe_int pa_nil)))
      (pss_cons (ps_set (i := 5) scNumbered.nd rfl (.inl rfl) (pe_lst pa_nil))
      (pss_cons (ps_while PassesOwn.never (pt_cmpR op_lt (pe_callB (r := rLen K) call_len_seq (by rfl) T.len PySem.boot_len (pa_cons (pv 5) pa_nil)) (pe_callB (r := rLen K) call_len_seq (by rfl) T.len PySem.boot_len (pa_cons (pv 4) pa_nil)) (nomark _)) (pss_cons (ps_set (i := 6) scNumbered.nd rfl (.inl rfl) (pe_lst pa_nil))
      (pss_cons (ps_set (i := 7) scNumbered.nd rfl (.inl rfl) (pe_ix (r := rIxL K) ix_list (pv 4) (pe_callB (r := rLen K) call_len_seq (by rfl) T.len PySem.boot_len (pa_cons (pv 5) pa_nil)) (fun _ _ => rfl)))
      (pss_cons (ps_for PassesOwn.never rfl (pi_seq (pe_ix (r := rIxQ) ix_any (pv 0) (pv 7) (fun _ _ => rfl))) (pg_name (i := 8) scNumbered.nd rfl (.inl rfl)) (pss_cons (ps_if (PW.pt (pw_or (pt_cmp (pc_isN (pv 8))) (pw_or1 (pt_cmp (pc_isN (pe_ix (r := rIxL K) ix_list (pv 2) (pv 8) (fun _ _ => rfl))))))) (pss_cons (ps_expr (pe_bm PySem.F.plainAttrs_list PySem.F.slot_list_append PySem.F.type_list_append mt_append (pv 6) (pa_cons pe_non pa_nil)))
      (pss_one ps_continue)) pss_nil)
      (pss_cons (ps_if (pt_cmp (pc_dnotin hu1 (pe_ix (r := rIxL K) ix_list (pv 2) (pv 8) (fun _ _ => rfl)) (pv 3))) (pss_cons (ps_asg (pe_callB (r := rLen K) call_len_seq (by rfl) T.len PySem.boot_len (pa_cons (pv 4) pa_nil)) (pg_sub (pv 3) (pe_ix (r := rIxL K) ix_list (pv 2) (pv 8) (fun _ _ => rfl)) (set_dict hu1)))
      (pss_one (ps_expr (pe_bm PySem.F.plainAttrs_list PySem.F.slot_list_append PySem.F.type_list_append mt_append (pv 4) (pa_cons (pv 8) pa_nil))))) pss_nil)
      (pss_one (ps_expr (pe_bm PySem.F.plainAttrs_list PySem.F.slot_list_append PySem.F.type_list_append mt_append (pv 6) (pa_cons (pe_dget hu1 (pv 3) (pe_ix (r := rIxL K) ix_list (pv 2) (pv 8) (fun _ _ => rfl)) (fun _ _ => rfl)) pa_nil)))))))
      (pss_one (ps_expr (pe_bm PySem.F.plainAttrs_list PySem.F.slot_list_append PySem.F.type_list_append mt_append (pv 5) (pa_cons (pe_callTy (r := rTup K) call_tuple_of (by rfl) T.tuple PyProof.Rows.boot_tuple (pa_cons (pv 6) pa_nil)) pa_nil))))))))
      (pss_one (ps_ret (pe_tup (pa_cons (pe_callTy (r := rTup K) call_tuple_of (by rfl) T.tuple PyProof.Rows.boot_tuple (pa_cons (pv 5) pa_nil)) (pa_cons (pe_callTy (r := rTup K) call_tuple_of (by rfl) T.tuple PyProof.Rows.boot_tuple (pa_cons (pe_lc (own := [("first", 9)]) (g := gName 9) (tt := tYes) rfl scNumbered.nd (pi_list (pv 4)) (blkOk_by (N := ["rows", "marks", "block", "numbers", "picked", "done", "row", "state", "target", "first"]) (sc := defScope sNumbered) (by decide +kernel)) (fun _ _ _ _ _ => pg_name (i := 9) scNumbered.nd rfl (Or.inl rfl)) (fun _ _ _ _ _ => pts_nil) (fun _ _ _ _ _ => (pe_ix (r := rIxL K) ix_list (pv 1) (pv 9) (fun _ _ => rfl)))) pa_nil)) pa_nil))))))))), ?_⟩
    intro dn hdn
    have s1 := same_new (o := .dK []) hdn
    have hb1 := s1 _ _ hblk
    have e0 : (block.map oV)[0]? = some (.int (b0 : Int)) := by
      rw [oV_at (by omega), hb0]
      rfl
    refine ⟨_, rfl, blk, _, 0, _, rfl, rfl, SqL.of hb1, atI_nat (j := 0) e0, upd_same, [(.inl (b0 : Int), .int 0)], rfl, by show 1 ≤ 15; decide, ?_⟩
    rw [upd_upd]
    have s1 := same_new (o := .dK (mergeK [] [(.inl (b0 : Int), V.int 0)])) hdn
    have hd1 : (upd H dn (.dK (mergeK [] [(.inl (b0 : Int), V.int 0)]))) dn = some (.dK (numKv 0 [b0])) := upd_same
    generalize upd H dn (.dK (mergeK [] [(.inl (b0 : Int), V.int 0)])) = G1 at *
    refine ⟨by show 1 ≤ sizeLine; decide, fun pk hpk => ?_⟩
    have s2 := same_new (o := .lst [.int 0]) hpk
    have hp2 : (upd G1 pk (.lst [.int 0])) pk = some (.lst ([0].map natV)) := upd_same
    have hd2 := s2 _ _ hd1
    generalize upd G1 pk (.lst [.int 0]) = G2 at *
    refine ⟨by show 0 ≤ sizeLine; decide, fun dl hdl => ?_⟩
    have s3 := same_new (o := .lst []) hdl
    have hl3 : (upd G2 dl (.lst [])) dl = some (.lst []) := upd_same
    have hd3 := s3 _ _ hd2
    have hp3 := s3 _ _ hp2
    generalize upd G2 dl (.lst []) = G3 at *
    have s13 := (s1.trans s2).trans s3
    have nkd : pk ≠ dn := fun z => by rw [z, hd1] at hpk; cases hpk
    have nld : dl ≠ dn := fun z => by rw [z, hd2] at hdl; cases hdl
    have nlk : dl ≠ pk := fun z => by rw [z, hp2] at hdl; cases hdl
    have fr : ∀ {b : Addr} {u : HO}, H b = some u → b ≠ dn ∧ b ≠ pk ∧ b ≠ dl := fun {b u} e => ⟨fun z => (by rw [z] at e; rw [e] at hdn; cases hdn), fun z => (by rw [z] at e; rw [s1 _ _ e] at hpk; cases hpk), fun z => (by rw [z] at e; rw [s2 _ _ (s1 _ _ e)] at hdl; cases hdl)⟩
    have tbW : ∀ {H' : Hp}, Same H H' → (∃ o, H' dn = some o) → (∃ o, H' pk = some o) → (∃ o, H' dl = some o) → TB (fun b => B b ∨ b = dn ∨ b = pk ∨ b = dl) H' := fun {H'} sm h1 h2 h3 b z e => by
      rcases z with z | z | z | z
      · exact tb_same sm tb b z e
      · obtain ⟨o, h1⟩ := h1
        rw [z, h1] at e
        cases e
      · obtain ⟨o, h2⟩ := h2
        rw [z, h2] at e
        cases e
      · obtain ⟨o, h3⟩ := h3
        rw [z, h3] at e
        cases e
    refine while_by (fun σ H' => ∃ (picked nums : List Nat) (done : Rws) (dvs : List V) (y6 y7 y8 : Option V), σ = [some (.ref pr), some (.ref mk), some (.ref blk), some (.ref dn), some (.ref pk), some (.ref dl), y6, y7, y8, none] ∧ Same H H' ∧ H' dn = some (.dK (numKv 0 nums)) ∧ H' pk = some (.lst (picked.map natV)) ∧ H' dl = some (.lst dvs) ∧ DtAll (fun b => B b ∨ b = dn ∨ b = pk ∨ b = dl) K H' dvs (done.map rowDt) ∧ NI rs L (bv block) picked nums done [])
      (fun (_ : List (Option V)) (H' : Hp) => match H' dl with
        | some (.lst xs) => 200001 - xs.length
        | _ => 0) ⟨[0], [b0], [], [], none, none, none, rfl, s13, hd3, hp3, hl3, .nil, ni_start hb0⟩ ?_ ?_
    · rintro σ H1 ⟨picked, nums, done, dvs, y6, y7, y8, rfl, sm, hd, hp, hl, hdv, ni⟩
      have ldv := hdv.len
      rw [List.length_map] at ldv
      obtain ⟨plt, pln⟩ := ni_lt ni PBk
      refine ⟨_, rfl, dl, _, rfl, .inl (SqL.of hl), _, rfl, pk, _, rfl, .inl (SqL.of hp), _, _, rfl, rfl, _, rfl, ite2 (fun hlt => ?_) fun hlt => ?_⟩
      · have hlt := of_decide_eq_true hlt
        rw [List.length_map] at hlt
        have hdl' : done.length < picked.length := by omega
        refine ⟨by show 0 ≤ sizeLine; decide, fun rw_ hrw => ?_⟩
        have sr := same_new (o := .lst []) hrw
        have hrw1 : (upd H1 rw_ (.lst [])) rw_ = some (.lst (([] : List (Option Nat)).map oV)) := upd_same
        have hu : picked[done.length]? = some picked[done.length] := List.getElem?_eq_getElem hdl'
        have hun := plt _ (List.getElem_mem hdl')
        generalize picked[done.length] = u at *
        have nrd : rw_ ≠ dn := fun z => by rw [z, hd] at hrw; cases hrw
        have nrk : rw_ ≠ pk := fun z => by rw [z, hp] at hrw; cases hrw
        have nrl : rw_ ≠ dl := fun z => by rw [z, hl] at hrw; cases hrw
        have hdv1 := same_all sr (DtAll.off hrw _ _ hdv)
        have hd := sr _ _ hd
        have hp := sr _ _ hp
        have hl0 := hl
        have hl := sr _ _ hl
        have smr := sm.trans sr
        have rwn : ∀ {b : Addr} {u : HO}, H b = some u → b ≠ rw_ := fun {b u} e z => by
          rw [z] at e
          rw [sm _ _ e] at hrw
          cases hrw
        generalize upd H1 rw_ (.lst []) = G4 at *
        refine ⟨_, rfl, _, rfl, dl, _, rfl, .inl (SqL.of hl), pk, _, _, _, rfl, rfl, SqL.of hp, atI_nat (natV_get (by rw [ldv]; exact hu)), ?_⟩
        have hrow : rs[u]? = some rs[u] := List.getElem?_eq_getElem hun
        have hmr := List.getElem_mem hun
        have hnx : ∀ c, nx rs u c = (rs[u]).getD c none := fun c => by
          unfold nx
          rw [getD_at hun]
        generalize rs[u] = row at *
        have MM1 := MM.same smr
        obtain ⟨q, hq1, hq0⟩ := MM.row u row hrow
        refine ⟨_, rfl, _, rfl, kt, pr, rvs, (u : Int), _, rfl, rfl, MM1.hr, atI_nat hq1, ku, q, _, rfl, hq0.same smr, ?_⟩
        refine for_seq (t := ku) (K := K) (a := q) (xs := row.map oV) (fun j σ H' => (∃ y8, σ = [some (.ref pr), some (.ref mk), some (.ref blk), some (.ref dn), some (.ref pk), some (.ref dl), some (.ref rw_), some (.int (u : Int)), y8, none]) ∧ Same H H' ∧ True ∧ ∃ (picked nums : List Nat) (r : List (Option Nat)), H' dn = some (.dK (numKv 0 nums)) ∧ H' pk = some (.lst (picked.map natV)) ∧ H' dl = some (.lst dvs) ∧ H' rw_ = some (.lst (r.map oV)) ∧ r.length = j ∧ picked[done.length]? = some u ∧
            DtAll (fun b => (B b ∨ b = dn ∨ b = pk ∨ b = dl) ∨ b = rw_) K H' dvs (done.map rowDt) ∧ NI rs L (bv block) picked nums done r) ⟨⟨_, rfl⟩, smr, trivial, picked, nums, [], hd, hp, hl, hrw1, rfl, hu, hdv1, ni⟩ (fun j σ H' _ p => hq0.same p.2.1) ?_ ?_
        · rintro j x σ H2 hx ⟨⟨y8, rfl⟩, sm2, hq3, picked, nums, r, hd, hp, hl, hr2, lr, hu, hdv2, ni⟩
          rw [List.getElem?_map] at hx
          obtain ⟨tg, hj, rfl⟩ := Option.map_eq_some_iff.mp hx
          have hjl := (List.getElem?_eq_some_iff.mp hj).1
          have hrl := M.row row hmr
          have L3 := M.L3
          have nxj : nx rs u j = tg := by rw [hnx, List.getD_eq_getElem?_getD, hj]; rfl
          have hb2 := sm2 _ _ hblk
          have app : ∀ (e : Option Nat) (G : Hp) (picked' nums' : List Nat), Same H G → True → G dn = some (.dK (numKv 0 nums')) → G pk = some (.lst (picked'.map natV)) → G dl = some (.lst dvs) → G rw_ = some (.lst (r.map oV)) → picked'[done.length]? = some u → DtAll (fun b => (B b ∨ b = dn ∨ b = pk ∨ b = dl) ∨ b = rw_) K G dvs (done.map rowDt) → NI rs L (bv block) picked' nums' done (r ++ [e]) →
              (r.map oV).length < sizeLine ∧ Same H (upd G rw_ (.lst (r.map oV ++ [oV e]))) ∧ True ∧ ∃ (picked nums : List Nat) (r' : List (Option Nat)), (upd G rw_ (.lst (r.map oV ++ [oV e]))) dn = some (.dK (numKv 0 nums)) ∧ (upd G rw_ (.lst (r.map oV ++ [oV e]))) pk = some (.lst (picked.map natV)) ∧ (upd G rw_ (.lst (r.map oV ++ [oV e]))) dl = some (.lst dvs) ∧ (upd G rw_ (.lst (r.map oV ++ [oV e]))) rw_ = some (.lst (r'.map oV)) ∧ r'.length = j + 1 ∧ picked[done.length]? = some u ∧
            DtAll (fun b => (B b ∨ b = dn ∨ b = pk ∨ b = dl) ∨ b = rw_) K (upd G rw_ (.lst (r.map oV ++ [oV e]))) dvs (done.map rowDt) ∧ NI rs L (bv block) picked nums done r' := fun e G picked' nums' a1 a2 a3 a4 a5 a6 a7 a8 a9 => by
            refine ⟨small9 (by rw [List.length_map]; omega), fun b u z => ?_, trivial, picked', nums', r ++ [e], by rw [upd_ne nrd.symm]; exact a3, by rw [upd_ne nrk.symm]; exact a4, by rw [upd_ne nrl.symm]; exact a5, by rw [upd_same, List.map_append]; rfl, by rw [List.length_append, lr]; rfl, a7, DtAll.keep (keep_store (.inr rfl)) _ _ a8, a9⟩
            rw [upd_ne (rwn z)]
            exact a1 _ _ z
          refine ⟨_, rfl, _, rfl, ?_⟩
          cases tg with
          | none =>
            obtain ⟨c1, c2, c3, c4⟩ := app none H2 picked nums sm2 hq3 hd hp hl hr2 hu hdv2 (ni.none_ fun p t hp' ht => by
              rw [hu] at hp'
              cases hp'
              rw [lr, nxj] at ht
              cases ht)
            exact ⟨_, rfl, .inl ⟨rfl, _, SqL.of hr2⟩, rw_, _, _, rfl, rfl, hr2, c1, ⟨_, rfl⟩, c2, c3, c4⟩
          | some t =>
            have tl := M.tgt row hmr t (List.mem_of_getElem? hj)
            have hbt := oV_at (block := block) (t := t) (by omega)
            refine ⟨_, rfl, _, rfl, blk, _, (t : Int), _, rfl, rfl, SqL.of hb2, atI_nat hbt, ?_⟩
            cases hbv : bv block t with
            | none =>
              obtain ⟨c1, c2, c3, c4⟩ := app none H2 picked nums sm2 hq3 hd hp hl hr2 hu hdv2 (ni.none_ fun p t' hp' ht => by
                rw [hu] at hp'
                cases hp'
                rw [lr, nxj] at ht
                cases ht
                exact hbv)
              exact ⟨_, rfl, _, rfl, .inl ⟨rfl, _, SqL.of hr2⟩, rw_, _, _, rfl, rfl, hr2, c1, ⟨_, rfl⟩, c2, c3, c4⟩
            | some b =>
              have hbt' : (block.map oV)[t]? = some (.int (b : Int)) := by
                rw [hbt, hbv]
                rfl
              have ht' : nx rs u r.length = some t := by rw [lr, nxj]
              have dg : DGet H2 dn (.int (b : Int)) (valV (numKv 0 nums) (.inl (b : Int))) := DGet.k (k := .inl (b : Int)) hd
              refine ⟨_, rfl, _, rfl, _, rfl, blk, _, (t : Int), _, rfl, rfl, SqL.of hb2, atI_nat hbt', _, rfl, dn, _, rfl, dg, _, rfl, ?_⟩
              by_cases hin : b ∈ nums
              · obtain ⟨i, hi⟩ := List.mem_iff_getElem?.mp hin
                have hv := numKv_at nums 0 i b ni.nd hi
                rw [Nat.zero_add] at hv
                rw [hv]
                obtain ⟨c1, c2, c3, c4⟩ := app (some i) H2 picked nums sm2 hq3 hd hp hl hr2 hu hdv2 (ni.some_ hu ht' hbv hi)
                exact ⟨_, rfl, .inl ⟨rfl, _, SqL.of hr2⟩, _, rfl, _, rfl, _, rfl, blk, _, (t : Int), _, rfl, rfl, SqL.of hb2, atI_nat hbt', dn, _, rfl, (by rw [hv] at dg; exact dg), rw_, _, _, rfl, rfl, hr2, c1, ⟨_, rfl⟩, c2, c3, c4⟩
              · rw [numKv_no hin]
                have fb := ni.fresh hu ht' hbv hin
                have lnm := ni.len
                obtain ⟨_, fbl⟩ := ni_lt fb PBk
                rw [List.length_append, List.length_singleton] at fbl
                have nl15 : (numKv 0 nums).length < sizeLine := small9 (by rw [numKv_len]; omega)
                have dp : DPut H2 dn (.int (b : Int)) (.int ((picked.map natV).length : Int)) (upd H2 dn (.dK (numKv 0 (nums ++ [b])))) := by
                  have := DPut.k (k := .inl (b : Int)) (v := .int ((picked.map natV).length : Int)) hd nl15
                  rw [List.length_map, lnm, numKv_put hin] at this
                  rw [List.length_map, lnm]
                  exact this
                have w1 : ∀ {z : Addr} {o : HO}, z ≠ dn → H2 z = some o → (upd H2 dn (.dK (numKv 0 (nums ++ [b])))) z = some o := fun ne e => by rw [upd_ne ne]; exact e
                have hp1 := w1 nkd hp
                have hl1 := w1 nld hl
                have hr1 := w1 nrd hr2
                have hd1 : (upd H2 dn (.dK (numKv 0 (nums ++ [b])))) dn = some (.dK (numKv 0 (nums ++ [b]))) := upd_same
                have sm1 : Same H (upd H2 dn (.dK (numKv 0 (nums ++ [b])))) := fun z o e => w1 (fr e).1 (sm2 _ _ e)
                have hdv3 := DtAll.keep (keep_store (p := dn) (o := .dK (numKv 0 (nums ++ [b]))) (.inl (.inr (.inl rfl)))) _ _ hdv2
                have hblk1 := sm1 _ _ hblk
                generalize upd H2 dn (.dK (numKv 0 (nums ++ [b]))) = G1 at *
                refine ⟨_, rfl, pk, _, rfl, .inl (SqL.of hp), _, rfl, _, rfl, _, rfl, blk, _, (t : Int), _, rfl, rfl, SqL.of hb2, atI_nat hbt', dn, G1, rfl, dp, ?_⟩
                refine ⟨_, rfl, .inl ⟨rfl, _, SqL.of hp1⟩, _, rfl, pk, _, _, rfl, rfl, hp1, small9 (by rw [List.length_map]; omega), ?_⟩
                have ep : picked.map natV ++ [V.int (t : Int)] = (picked ++ [t]).map natV := by
                  rw [List.map_append]
                  rfl
                have ep' : picked.map natV ++ [oV (some t)] = (picked ++ [t]).map natV := ep
                rw [ep']
                have w2 : ∀ {z : Addr} {o : HO}, z ≠ pk → G1 z = some o → (upd G1 pk (.lst ((picked ++ [t]).map natV))) z = some o := fun ne e => by rw [upd_ne ne]; exact e
                have hd2 := w2 nkd.symm hd1
                have hl2 := w2 nlk hl1
                have hr3 := w2 nrk hr1
                have hp2 : (upd G1 pk (.lst ((picked ++ [t]).map natV))) pk = some (.lst ((picked ++ [t]).map natV)) := upd_same
                have sm3 : Same H (upd G1 pk (.lst ((picked ++ [t]).map natV))) := fun z o e => w2 (fr e).2.1 (sm1 _ _ e)
                have hdv4 := DtAll.keep (keep_store (p := pk) (o := .lst ((picked ++ [t]).map natV)) (.inl (.inr (.inr (.inl rfl))))) _ _ hdv3
                generalize upd G1 pk (.lst ((picked ++ [t]).map natV)) = G2 at *
                have hv := numKv_at (nums ++ [b]) 0 nums.length b fb.nd (by rw [List.getElem?_append_right (Nat.le_refl _), Nat.sub_self]; rfl)
                rw [Nat.zero_add, ← lnm] at hv
                have dg2 : DGet G2 dn (.int (b : Int)) (valV (numKv 0 (nums ++ [b])) (.inl (b : Int))) := DGet.k (k := .inl (b : Int)) hd2
                rw [hv] at dg2
                obtain ⟨c1, c2, c3, c4⟩ := app (some picked.length) G2 (picked ++ [t]) (nums ++ [b]) sm3 trivial hd2 hp2 hl2 hr3 (by rw [List.getElem?_append_left (List.getElem?_eq_some_iff.mp hu).1]; exact hu) hdv4 fb
                exact ⟨_, rfl, .inl ⟨rfl, _, SqL.of hr3⟩, _, rfl, _, rfl, _, rfl, blk, _, (t : Int), _, rfl, rfl, SqL.of (sm3 _ _ hblk), atI_nat hbt', dn, _, rfl, dg2, rw_, _, _, rfl, rfl, hr3, c1, ⟨_, rfl⟩, c2, c3, c4⟩
        · rintro σ H2 ⟨⟨y8, rfl⟩, sm2, hq3, picked, nums, r, hd, hp, hl, hr2, lr, hu, hdv2, ni⟩
          rw [List.length_map, M.row row hmr] at lr
          have hlu := (List.getElem?_eq_some_iff.mp hu).1
          obtain ⟨_, pln⟩ := ni_lt ni PBk
          refine ⟨_, rfl, .inl ⟨rfl, _, SqL.of hl⟩, _, rfl, rw_, _, rfl, .inl ⟨SqL.of hr2, fun t nt => ?_⟩⟩
          have st := same_new (o := .tup (r.map oV)) nt
          have hl2 := st _ _ hl
          refine ⟨dl, _, _, rfl, rfl, hl2, small9 (by omega), ?_⟩
          have tbw := tbW sm2 ⟨_, hd⟩ ⟨_, hp⟩ ⟨_, hl⟩
          have hdv3 : DtAll (fun b => B b ∨ b = dn ∨ b = pk ∨ b = dl) K (upd H2 t (.tup (r.map oV))) (dvs ++ [.ref t]) ((done ++ [r]).map rowDt) := by
            rw [List.map_append]
            exact (same_all st (DtAll.weak (fun b z => .inl z) _ _ hdv2)).append (.cons (.tup (tb_off tbw nt) (.inl upd_same) (dt_cs o_cs r)) .nil)
          refine ⟨⟨picked, nums, done ++ [r], dvs ++ [.ref t], _, _, _, rfl, fun z o e => ?_, ?_, ?_, upd_same, DtAll.keep (keep_store (.inr (.inr (.inr rfl)))) _ _ hdv3, ni.whole lr hlu⟩, ?_⟩
          · rw [upd_ne (fr e).2.2]
            exact st _ _ (sm2 _ _ e)
          · rw [upd_ne nld.symm]
            exact st _ _ hd
          · rw [upd_ne nlk.symm]
            exact st _ _ hp
          · rw [upd_same, hl0]
            show 200001 - (dvs ++ [V.ref t]).length < 200001 - dvs.length
            rw [List.length_append, List.length_singleton]
            omega
      · have hge : ¬ ((dvs.length : Int) < ((picked.map natV).length : Int)) := fun z => hlt (decide_eq_true z)
        rw [List.length_map] at hge
        have hle := ni.lt
        have heq : done.length = picked.length := by omega
        have tbw := tbW sm ⟨_, hd⟩ ⟨_, hp⟩ ⟨_, hl⟩
        refine ⟨_, rfl, dl, _, rfl, .inl ⟨SqL.of hl, fun t1 nt1 => ?_⟩⟩
        have st1 := same_new (o := .tup dvs) nt1
        have dt1 : Dt B K (upd H1 t1 (.tup dvs)) (.ref t1) (.tuple (done.map rowDt)) := .tup (tb_off (tb_same sm tb) nt1) (.inl upd_same) (same_all st1 (DtAll.weak (fun b z => .inl z) _ _ hdv))
        have hp1 := st1 _ _ hp
        have sm1 := sm.trans st1
        generalize upd H1 t1 (.tup dvs) = G1 at *
        refine ⟨_, rfl, pk, rfl, ⟨_, SqL.of hp1⟩, fun D hD => ?_⟩
        refine lc_list (K := K) (a := pk) (xs := picked.map natV) (NInv (fun p : Nat => natV (mks.getD p 0)) picked G1 D) (nstart hD) (fun i H' _ q => SqL.of (q.1 _ _ hp1)) ?_ ?_
        · rintro i x H3 hx p1
          obtain ⟨u, hu, rfl⟩ := natV_of hx
          have hun := plt u (List.mem_of_getElem? hu)
          have ek : (mks.map natV)[u]? = some (natV (mks.getD u 0)) := natV_get (by rw [getD_at (show u < mks.length by omega)]; exact List.getElem?_eq_getElem (show u < mks.length by omega))
          refine ⟨rfl, _, rfl, _, rfl, mk, _, (u : Int), _, rfl, rfl, SqL.of (p1.1 _ _ (sm1 _ _ hmk)), atI_nat ek, ?_⟩
          exact nturn (f := fun p : Nat => natV (mks.getD p 0)) (small9 (by omega)) hD hu p1 (Same.refl _)
        · rintro H3 p1
          obtain ⟨s4, hl4⟩ := nend (List.length_map _) p1
          refine ⟨D, _, rfl, .inl ⟨SqL.of hl4, fun t2 nt2 => ?_⟩⟩
          have st2 := same_new (o := .tup (picked.map fun p : Nat => natV (mks.getD p 0))) nt2
          refine ⟨by show 2 ≤ sizeLine; decide, fun r nr => ?_⟩
          have st3 := same_new (o := .tup [.ref t1, .ref t2]) nr
          have s24 := s4.trans (st2.trans st3)
          refine k _ r t1 t2 picked nums done (sm1.trans s24) (.inl upd_same) (same_dt s24 dt1) (same_rd st3 (.inl (by rw [upd_same, List.map_map]; rfl))) ni heq
    · rintro σ H1 Q1 Q2 hQ ⟨x, e1, p0, ys0, e2, e3, y, e4, p, ys, e5, e6, i, j, e7, e8, b, e9, q⟩
      exact ⟨x, e1, p0, ys0, e2, e3, y, e4, p, ys, e5, e6, i, j, e7, e8, b, e9, hQ _ _ q⟩
end
/-! ### states that lead on -/
def rListL (K : PySem.W.Frag) : List V → Hp → VK → Prop := fun xs H Q => ∃ p ys, xs = [.ref p] ∧ (SqL K H p ys ∨ SqT K H p ys) ∧ ∀ l, H l = none → Q (.ref l) (upd H l (.lst ys))
/-- what is marked, what waits -/
structure Ld (n : Nat) (f : Nat → Nat → List Nat) (L : Nat) (Pd : Nat → Prop) (goals M F : List Nat) (x : Nat → Nat → Prop) : Prop where
  nd : M.Nodup
  lt : ∀ s ∈ M, s < n
  so : ∀ s ∈ M, Pd s
  go : ∀ s ∈ goals, s ∈ M
  fs : ∀ s ∈ F, s ∈ M
  cl : ∀ t ∈ M, t ∉ F → ∀ c, c < L → x c t ∨ ∀ s ∈ f c t, s ∈ M
def unm (n : Nat) (M : List Nat) : Nat := ((List.range n).filter fun u => !(decide (u ∈ M))).length
theorem knB_cnt {n : Nat} {M : List Nat} : (knB n M).countP (fun v => decide (v = V.bl false)) = unm n M := by
  unfold knB unm
  rw [List.countP_map, List.countP_eq_length_filter]
  congr 1
  refine List.filter_congr fun u _ => ?_
  show decide (V.bl (decide (u ∈ M)) = V.bl false) = !(decide (u ∈ M))
  cases h : decide (u ∈ M)
  · exact decide_eq_true rfl
  · exact decide_eq_false (fun q => by cases q)
theorem unm_push {n s : Nat} {M : List Nat} (hs : s < n) (hn : s ∉ M) : unm n (M ++ [s]) + 1 = unm n M := by
  unfold unm
  have h1 : ((List.range n).filter fun u => !(decide (u ∈ M ++ [s]))) = ((List.range n).filter fun u => !(decide (u ∈ M))).filter fun u => !(decide (u ∈ [s])) := by
    rw [List.filter_filter]
    refine List.filter_congr fun u _ => ?_
    by_cases a : u ∈ M
    · rw [decide_eq_true a, decide_eq_true (List.mem_append.mpr (.inl a))]
      simp
    · by_cases b : u ∈ [s]
      · rw [decide_eq_true b, decide_eq_true (List.mem_append.mpr (.inr b))]
        rfl
      · rw [decide_eq_false a, decide_eq_false b, decide_eq_false (fun q => (List.mem_append.mp q).elim a b)]
        rfl
  have h2 := cnt_out (xs := (List.range n).filter fun u => !(decide (u ∈ M))) (ys := [s]) (List.nodup_range.filter _) (List.nodup_cons.mpr ⟨List.not_mem_nil, List.nodup_nil⟩) fun y hy => by
    rw [List.mem_singleton.mp hy]
    exact List.mem_filter.mpr ⟨List.mem_range.mpr hs, by rw [decide_eq_false hn]; rfl⟩
  rw [h1]
  exact h2
theorem Ld.mono {n : Nat} {f : Nat → Nat → List Nat} {L : Nat} {Pd : Nat → Prop} {goals M F F' : List Nat} {x x' : Nat → Nat → Prop} (h : Ld n f L Pd goals M F x) (hF : ∀ s ∈ F', s ∈ F) (hx : ∀ t, t ∈ M → t ∉ F' → ∀ c, c < L → (t ∈ F ∨ x c t) → x' c t ∨ ∀ s ∈ f c t, s ∈ M) : Ld n f L Pd goals M F' x' :=
  ⟨h.nd, h.lt, h.so, h.go, fun s hs => h.fs s (hF s hs), fun t ht hn c hc => by
    by_cases q : t ∈ F
    · exact hx t ht hn c hc (.inl q)
    · rcases h.cl t ht q c hc with z | z
      · exact hx t ht hn c hc (.inr z)
      · exact .inr z⟩
theorem Ld.push {n : Nat} {f : Nat → Nat → List Nat} {L : Nat} {Pd : Nat → Prop} {goals M F : List Nat} {x : Nat → Nat → Prop} (h : Ld n f L Pd goals M F x) {s : Nat} (hs : s < n) (hp : Pd s) (hn : s ∉ M) : Ld n f L Pd goals (M ++ [s]) (F ++ [s]) x where
  nd := by
    rw [List.nodup_append]
    refine ⟨h.nd, List.nodup_cons.mpr ⟨List.not_mem_nil, List.nodup_nil⟩, fun a ha b hb e => ?_⟩
    rw [List.mem_singleton.mp hb] at e
    exact hn (e ▸ ha)
  lt := fun a ha => by
    rcases List.mem_append.mp ha with ha | ha
    · exact h.lt a ha
    · rw [List.mem_singleton.mp ha]
      exact hs
  so := fun a ha => by
    rcases List.mem_append.mp ha with ha | ha
    · exact h.so a ha
    · rw [List.mem_singleton.mp ha]
      exact hp
  go := fun a ha => List.mem_append.mpr (.inl (h.go a ha))
  fs := fun a ha => by
    rcases List.mem_append.mp ha with ha | ha
    · exact List.mem_append.mpr (.inl (h.fs a ha))
    · exact List.mem_append.mpr (.inr ha)
  cl := fun t ht hf c hc => by
    rcases List.mem_append.mp ht with ht | ht
    · rcases h.cl t ht (fun q => hf (List.mem_append.mpr (.inl q))) c hc with q | q
      · exact .inl q
      · exact .inr fun a ha => List.mem_append.mpr (.inl (q a ha))
    · exact absurd (List.mem_append.mpr (.inr ht)) hf

section
variable {P : Program} {w : World} {K : PySem.W.Frag} {mg : Str → Option Value} {base : Heap}
theorem scLeading : FnScope ["before", "goals", "many", "leads", "state", "found", "ways", "source"] ["before", "goals", "many"] (defScope sLeading) := ⟨rfl, rfl, rfl, by decide +kernel, rfl, by decide +kernel, by decide +kernel⟩
def spLeading : Sp := fun vs H Q _ => ∃ (bf gl : Addr) (ws : List Addr) (cs : List (List Addr)) (L n : Nat) (f : Nat → Nat → List Nat) (goals : List Nat) (Pd : Nat → Prop), vs = [.ref bf, .ref gl, .int (n : Int)] ∧ BA H bf ws cs L n f ∧ H gl = some (.lst (goals.map natV)) ∧ 1 ≤ n ∧ n ≤ 200000 ∧ goals.Nodup ∧ (∀ s ∈ goals, s < n ∧ Pd s) ∧
  (∀ c t s, c < L → t < n → s ∈ f c t → s < n ∧ (Pd t → Pd s)) ∧
  ∀ (H' : Hp) (ld : Addr) (M : List Nat), Same H H' → H ld = none → H' ld = some (.lst (knB n M)) → Ld n f L Pd goals M [] (fun _ _ => False) → Q (.ref ld) H'
theorem ok_leading {f : Addr} {fd : FuncData} (F : Fun K "leading" "leading" sLeading f fd) (T : Mg mg) : FnOk P w K mg base CX0 1 f fd ["before", "goals", "many"] spLeading := by
  refine F.ok scLeading (fun vs H Q E h => ?_) (fun cdv A outer s H vs Q E hr h => ?_)
  · obtain ⟨bf, gl, ws, cs, L, n, f, goals, Pd, rfl, _⟩ := h
    rfl
  · obtain ⟨bf, gl, ws, cs, L, n, f, goals, Pd, rfl, BB, hgl, n1, n4, gnd, hgo, hf, k⟩ := h
    have gle : goals.length ≤ n := nodup_len gnd fun u hu => (hgo u hu).1
    refine ⟨_, (pss_cons (ps_set (i := 3) scLeading.nd rfl (.inl rfl) (pe_op op_rep (pe_lst (pa_cons pe_bl pa_nil)) (pv 2)))
      (pss_cons (ps_for PassesOwn.never rfl (pi_list (pv 1)) (pg_name (i := 4) scLeading.nd rfl (.inl rfl)) (pss_one (ps_asg pe_bl (pg_sub (pv 3) (pv 4) set_list))))
      (pss_cons (ps_set (i := 5) scLeading.nd rfl (.inl rfl) (pe_callTy (r := rListL K) call_list_of (by rfl) T.list (by decide +kernel) (pa_cons (pv 1) pa_nil)))
      (pss_cons (ps_while PassesOwn.never (pt_lstT (pv 5)) (pss_cons (ps_set (i := 4) scLeading.nd rfl (.inl rfl) (pe_bm0 PySem.F.plainAttrs_list PySem.F.slot_list_pop PySem.F.type_list_pop mt_pop (pv 5)))
      (pss_one (ps_for PassesOwn.never rfl (pi_list (pv 0)) (pg_name (i := 6) scLeading.nd rfl (.inl rfl)) (pss_one (ps_for PassesOwn.never rfl (pi_list (pe_ix (r := rIxL K) ix_list (pv 6) (pv 4) (fun _ _ => rfl))) (pg_name (i := 7) scLeading.nd rfl (.inl rfl)) (pss_one (ps_if (pt_not (pt_val (pe_ix (r := rIxL K) ix_list (pv 3) (pv 7) (fun _ _ => rfl)))) (pss_cons (ps_asg pe_bl (pg_sub (pv 3) (pv 7) set_list))
      (pss_one (ps_expr (pe_bm PySem.F.plainAttrs_list PySem.F.slot_list_append PySem.F.type_list_append mt_append (pv 5) (pa_cons (pv 7) pa_nil))))) pss_nil))))))))
      (pss_one (ps_ret (pv 3))))))), ?_⟩
    refine ⟨by show 1 ≤ sizeLine; decide, fun t ht => ?_⟩
    have s2 := same_new (o := .lst [.bl false]) ht
    refine ⟨_, rfl, t, (n : Int), [V.bl false], rfl, rfl, upd_same, by omega, by omega, sz_big (by rw [List.length_singleton]; omega), fun ld hk => ?_⟩
    have e0 : (List.replicate (n : Int).toNat [V.bl false]).flatten = knB n [] := by
      refine List.ext_getElem? fun u => ?_
      rw [show (List.replicate (n : Int).toNat [V.bl false]).flatten = List.replicate n (V.bl false) by simp]
      by_cases hu : u < n
      · rw [knB_get hu, List.getElem?_replicate, if_pos hu]
        rfl
      · rw [List.getElem?_eq_none (by rw [List.length_replicate]; omega), List.getElem?_eq_none (by rw [knB_len]; omega)]
    rw [e0]
    have s3 := same_new (o := .lst (knB n [])) hk
    have hld : (upd (upd H t (.lst [.bl false])) ld (.lst (knB n []))) ld = some (.lst (knB n [])) := upd_same
    have sG := s2.trans s3
    have ld0 : H ld = none := s2.free hk
    generalize upd (upd H t (.lst [.bl false])) ld (.lst (knB n [])) = G at *
    have pld : ∀ {H' : Hp} {u : HO}, Same H H' → Same H (upd H' ld u) := fun {H' u} sm b o e => by
      rw [upd_ne (ne_of_none e ld0)]
      exact sm _ _ e
    refine ⟨_, rfl, gl, rfl, ⟨_, SqL.of (sG _ _ hgl)⟩, ?_⟩
    refine for_list (K := K) (a := gl) (xs := goals.map natV) (fun i σ H' => (∃ y4, σ = [some (.ref bf), some (.ref gl), some (.int (n : Int)), some (.ref ld), y4, none, none, none]) ∧ Same H H' ∧ H' ld = some (.lst (knB n (goals.take i)))) ⟨⟨_, rfl⟩, sG, hld⟩ (fun i σ H' _ p => SqL.of (p.2.1 _ _ hgl)) ?_ ?_
    · rintro i x σ H2 hx ⟨⟨y4, rfl⟩, sm, hl⟩
      obtain ⟨u, hu, rfl⟩ := natV_of hx
      have hun := (hgo u (List.mem_of_getElem? hu)).1
      refine ⟨_, rfl, _, rfl, ld, _, (u : Int), u, rfl, rfl, hl, Evl.ixN_nat (by rw [knB_len]; exact hun), ?_⟩
      rw [knB_set]
      exact ⟨⟨_, rfl⟩, pld sm, by rw [upd_same, List.take_add_one, hu]; rfl⟩
    · rintro σ H2 ⟨⟨y4, rfl⟩, sm, hl⟩
      rw [List.length_map, List.take_length] at hl
      refine ⟨_, rfl, gl, _, rfl, .inl (SqL.of (sm _ _ hgl)), fun fd_ hfd => ?_⟩
      have s4 := same_new (o := .lst (goals.map natV)) hfd
      have hl4 := s4 _ _ hl
      have hf4 : (upd H2 fd_ (.lst (goals.map natV))) fd_ = some (.lst (goals.map natV)) := upd_same
      have sm4 := sm.trans s4
      have fd0 : H fd_ = none := sm.free hfd
      have nfl : fd_ ≠ ld := fun z => by rw [z, hl] at hfd; cases hfd
      generalize upd H2 fd_ (.lst (goals.map natV)) = G4 at *
      have pfd : ∀ {H' : Hp} {u : HO}, Same H H' → Same H (upd H' fd_ u) := fun {H' u} sm b o e => by
        rw [upd_ne (ne_of_none e fd0)]
        exact sm _ _ e
      refine while_by (fun σ H' => ∃ (M F : List Nat) (y4 y6 y7 : Option V), σ = [some (.ref bf), some (.ref gl), some (.int (n : Int)), some (.ref ld), y4, some (.ref fd_), y6, y7] ∧ Same H H' ∧ H' ld = some (.lst (knB n M)) ∧ H' fd_ = some (.lst (F.map natV)) ∧ F.length + 2 * unm n M ≤ 1000000 ∧ Ld n f L Pd goals M F (fun _ _ => False))
        (fun (_ : List (Option V)) (H' : Hp) => match H' fd_, H' ld with
          | some (.lst xs), some (.lst ys) => xs.length + 2 * (ys.countP fun v => decide (v = V.bl false))
          | _, _ => 0) ⟨goals, goals, _, _, _, rfl, sm4, hl4, hf4, by have := List.length_filter_le (fun u => !(decide (u ∈ goals))) (List.range n); rw [List.length_range] at this; unfold unm; omega, ⟨gnd, fun s hs => (hgo s hs).1, fun s hs => (hgo s hs).2, fun s hs => hs, fun s hs => hs, fun t ht hn => absurd ht hn⟩⟩ ?_ ?_
      · rintro σ H3 ⟨M, F, y4, y6, y7, rfl, sm3, hl, hF, hμ, Ld3⟩
        refine ⟨_, rfl, fd_, _, rfl, SqL.of hF, ?_⟩
        cases F with
        | nil => exact ⟨_, rfl, k H3 ld M sm3 ld0 hl Ld3⟩
        | cons f0 F0 =>
          have hne : (f0 :: F0) ≠ [] := List.cons_ne_nil _ _
          generalize f0 :: F0 = F at *
          obtain ⟨F', u, eF⟩ : ∃ F' u, F = F' ++ [u] := ⟨F.dropLast, F.getLast hne, (List.dropLast_concat_getLast hne).symm⟩
          subst eF
          have um : u ∈ M := Ld3.fs u (List.mem_append.mpr (.inr List.mem_cons_self))
          have un := Ld3.lt u um
          have upd_ := Ld3.so u um
          rw [List.length_append, List.length_singleton] at hμ
          have hx0 : (!((F' ++ [u]).map natV).isEmpty) = true := by
            rw [List.map_append]
            cases F'.map natV <;> rfl
          rw [if_pos hx0]
          have μ0 : (match H3 fd_, H3 ld with
          | some (.lst xs), some (.lst ys) => xs.length + 2 * (ys.countP fun v => decide (v = V.bl false))
          | _, _ => 0) = F'.length + 1 + 2 * unm n M := by
            rw [hF, hl]
            show ((F' ++ [u]).map natV).length + 2 * _ = _
            rw [knB_cnt, List.length_map, List.length_append]
            rfl
          rw [μ0]
          have em : (F' ++ [u]).map natV = F'.map natV ++ [V.int (u : Int)] := by
            rw [List.map_append]
            rfl
          refine ⟨_, rfl, .inl ⟨rfl, _, SqL.of hF⟩, fd_, _, V.int (u : Int), rfl, rfl, hF, by rw [em]; simp, ?_⟩
          have ed : ((F' ++ [u]).map natV).dropLast = F'.map natV := by rw [em, List.dropLast_concat]
          rw [ed]
          have smp := pfd (u := .lst (F'.map natV)) sm3
          have hl1 : (upd H3 fd_ (.lst (F'.map natV))) ld = some (.lst (knB n M)) := by rw [upd_ne nfl.symm]; exact hl
          have hf1 : (upd H3 fd_ (.lst (F'.map natV))) fd_ = some (.lst (F'.map natV)) := upd_same
          generalize upd H3 fd_ (.lst (F'.map natV)) = G5 at *
          have Ld5 : Ld n f L Pd goals M F' (fun c t => t = u ∧ 0 ≤ c) := Ld3.mono (fun s hs => List.mem_append.mpr (.inl hs)) fun t ht hn c hc q => by
            rcases q with q | q
            · rcases List.mem_append.mp q with q | q
              · exact absurd q hn
              · exact .inl ⟨List.mem_singleton.mp q, Nat.zero_le _⟩
            · exact q.elim
          refine ⟨_, rfl, bf, rfl, ⟨_, SqL.of (BB.same smp).top⟩, ?_⟩
          refine for_list (K := K) (a := bf) (xs := ws.map V.ref) (fun i σ H' => (∃ (M1 F1 : List Nat) (y6 y7 : Option V), σ = [some (.ref bf), some (.ref gl), some (.int (n : Int)), some (.ref ld), some (.int (u : Int)), some (.ref fd_), y6, y7] ∧ Same H H' ∧ H' ld = some (.lst (knB n M1)) ∧ H' fd_ = some (.lst (F1.map natV)) ∧ F1.length + 2 * unm n M1 ≤ F'.length + 2 * unm n M ∧ u ∈ M1 ∧ Ld n f L Pd goals M1 F1 (fun c t => t = u ∧ i ≤ c)))
            ⟨M, F', _, _, rfl, smp, hl1, hf1, Nat.le_refl _, um, Ld5⟩ (fun i σ H' _ p => by
              obtain ⟨M1, F1, _, _, _, sm, _⟩ := p
              exact SqL.of (BB.same sm).top) ?_ ?_
          · rintro i x σ H6 hx ⟨M1, F1, y6, y7, rfl, sm6, hl6, hf6, hm6, um6, Ld6⟩
            rw [List.getElem?_map] at hx
            obtain ⟨w0, hw, rfl⟩ := Option.map_eq_some_iff.mp hx
            have iL : i < L := by
              have := (List.getElem?_eq_some_iff.mp hw).1
              rw [BB.wl] at this
              exact this
            obtain ⟨cc, hcc⟩ : ∃ cc, cs[i]? = some cc := ⟨_, List.getElem?_eq_getElem (by rw [BB.cl]; exact iL)⟩
            obtain ⟨g1, g2⟩ := (BB.same sm6).mid i w0 cc hw hcc
            obtain ⟨a, hca⟩ : ∃ a, cc[u]? = some a := ⟨_, List.getElem?_eq_getElem (by rw [g2]; exact un)⟩
            have g3 := (BB.same sm6).low i u cc a hcc hca
            have g30 := BB.low i u cc a hcc hca
            refine ⟨_, rfl, _, rfl, w0, _, (u : Int), V.ref a, rfl, rfl, SqL.of g1, atI_nat (v := V.ref a) (by rw [List.getElem?_map, hca]; rfl), a, rfl, ⟨_, SqL.of g3⟩, ?_⟩
            refine for_list (K := K) (a := a) (xs := (f i u).map natV) (fun j σ H' => (∃ (M1 F1 : List Nat) (y7 : Option V), σ = [some (.ref bf), some (.ref gl), some (.int (n : Int)), some (.ref ld), some (.int (u : Int)), some (.ref fd_), some (.ref w0), y7] ∧ Same H H' ∧ H' ld = some (.lst (knB n M1)) ∧ H' fd_ = some (.lst (F1.map natV)) ∧ F1.length + 2 * unm n M1 ≤ F'.length + 2 * unm n M ∧ u ∈ M1 ∧ (∀ s ∈ (f i u).take j, s ∈ M1) ∧ Ld n f L Pd goals M1 F1 (fun c t => t = u ∧ i ≤ c)))
              ⟨M1, F1, _, rfl, sm6, hl6, hf6, hm6, um6, fun s hs => absurd hs (by rw [List.take_zero]; exact List.not_mem_nil), Ld6⟩ (fun j σ H' _ p => by
                obtain ⟨M1, F1, _, _, sm, _⟩ := p
                exact SqL.of (sm _ _ g30)) ?_ ?_
            · rintro j x σ H7 hx ⟨M2, F2, y7, rfl, sm7, hl7, hf7, hm7, um7, htk, Ld7⟩
              obtain ⟨v, hv, rfl⟩ := natV_of hx
              obtain ⟨vn, vp⟩ := hf i u v iL un (List.mem_of_getElem? hv)
              have tk : (f i u).take (j + 1) = (f i u).take j ++ [v] := by rw [List.take_add_one, hv]; rfl
              refine ⟨_, rfl, _, rfl, ld, _, (v : Int), _, rfl, rfl, SqL.of hl7, atI_nat (knB_get vn), _, rfl, ?_⟩
              by_cases hin : v ∈ M2
              · rw [decide_eq_true hin]
                refine ⟨M2, F2, _, rfl, sm7, hl7, hf7, hm7, um7, fun s hs => ?_, Ld7⟩
                rw [tk] at hs
                rcases List.mem_append.mp hs with hs | hs
                · exact htk s hs
                · rw [List.mem_singleton.mp hs]
                  exact hin
              · rw [decide_eq_false hin]
                refine ⟨_, rfl, _, rfl, ld, _, (v : Int), v, rfl, rfl, hl7, Evl.ixN_nat (by rw [knB_len]; exact vn), ?_⟩
                rw [knB_set]
                have f8 : (upd H7 ld (.lst (knB n (M2 ++ [v])))) fd_ = some (.lst (F2.map natV)) := by rw [upd_ne nfl]; exact hf7
                have up := unm_push vn hin
                refine ⟨_, rfl, .inl ⟨rfl, _, SqL.of f8⟩, _, rfl, fd_, _, _, rfl, rfl, f8, Nat.lt_of_le_of_lt (show (F2.map natV).length ≤ 1000000 by rw [List.length_map]; omega) (by decide), ?_⟩
                refine ⟨M2 ++ [v], F2 ++ [v], _, rfl, pfd (pld sm7), by rw [upd_ne nfl.symm, upd_same], by rw [upd_same, List.map_append]; rfl, by rw [List.length_append, List.length_singleton]; omega, List.mem_append.mpr (.inl um7), fun s hs => ?_, Ld7.push vn (vp upd_) hin⟩
                rw [tk] at hs
                rcases List.mem_append.mp hs with hs | hs
                · exact List.mem_append.mpr (.inl (htk s hs))
                · exact List.mem_append.mpr (.inr hs)
            · rintro σ H7 ⟨M2, F2, y7, rfl, sm7, hl7, hf7, hm7, um7, htk, Ld7⟩
              rw [List.length_map, List.take_length] at htk
              refine ⟨M2, F2, _, _, rfl, sm7, hl7, hf7, hm7, um7, Ld7.mono (fun s hs => hs) fun t ht hn c hc q => ?_⟩
              rcases q with q | ⟨q1, q2⟩
              · exact absurd q hn
              · by_cases z : c = i
                · subst z
                  subst q1
                  exact .inr htk
                · exact .inl ⟨q1, by omega⟩
          · rintro σ H6 ⟨M1, F1, y6, y7, rfl, sm6, hl6, hf6, hm6, um6, Ld6⟩
            refine ⟨⟨M1, F1, _, _, _, rfl, sm6, hl6, hf6, by omega, Ld6.mono (fun s hs => hs) fun t ht hn c hc q => ?_⟩, ?_⟩
            · rcases q with q | ⟨_, q⟩
              · exact absurd q hn
              · rw [List.length_map, BB.wl] at q
                omega
            · rw [hf6, hl6]
              show (F1.map natV).length + 2 * _ < _
              rw [knB_cnt, List.length_map]
              omega
      · rintro σ H3 Q1 Q2 hQ ⟨x, e1, a, xs, e2, e3, q⟩
        exact ⟨x, e1, a, xs, e2, e3, hQ _ _ q⟩
end
/-! ### the first lots, as they lie -/
structure MemAt (H : Hp) (ma : List Addr) (mem : List (List Nat)) : Prop where
  ln : ma.length = mem.length
  at_ : ∀ (b : Nat) (a : Addr), ma[b]? = some a → H a = some (.lst ((mem.getD b []).map natV))
theorem MemAt.keep {H H' : Hp} {ma : List Addr} {mem : List (List Nat)} (h : MemAt H ma mem) {W : Addr → Prop} (k : Keep W H H') (nw : ∀ a ∈ ma, ¬ W a) : MemAt H' ma mem := ⟨h.ln, fun b a e => k _ _ (nw a (List.mem_of_getElem? e)) (h.at_ b a e)⟩
theorem MemAt.push {H : Hp} {ma : List Addr} {mem : List (List Nat)} (h : MemAt H ma mem) {a : Addr} {l : List Nat} (ha : H a = some (.lst (l.map natV))) : MemAt H (ma ++ [a]) (mem ++ [l]) := by
  refine ⟨by rw [List.length_append, List.length_append, h.ln]; rfl, fun b x e => ?_⟩
  have hl := h.ln
  rcases Nat.lt_or_ge b ma.length with q | q
  · rw [List.getElem?_append_left q] at e
    rw [List.getD_eq_getElem?_getD, List.getElem?_append_left (by omega), ← List.getD_eq_getElem?_getD]
    exact h.at_ b x e
  · have l2 := (List.getElem?_eq_some_iff.mp e).1
    rw [List.length_append, List.length_singleton] at l2
    have eb : b = ma.length := by omega
    rw [eb, List.getElem?_append_right (Nat.le_refl _), Nat.sub_self] at e
    cases e
    rw [eb, hl, List.getD_eq_getElem?_getD, List.getElem?_append_right (Nat.le_refl _), Nat.sub_self]
    exact ha
theorem MemAt.upd {H : Hp} {ma : List Addr} {mem : List (List Nat)} (h : MemAt H ma mem) (nd : ma.Nodup) {b : Nat} {a : Addr} (hb : ma[b]? = some a) (l : List Nat) : MemAt (upd H a (.lst (l.map natV))) ma (mem.set b l) := by
  refine ⟨by rw [List.length_set]; exact h.ln, fun c x e => ?_⟩
  have lb := (List.getElem?_eq_some_iff.mp hb).1
  have lc := (List.getElem?_eq_some_iff.mp e).1
  rw [h.ln] at lb
  by_cases z : c = b
  · subst z
    rw [hb] at e
    cases e
    rw [upd_same, List.getD_eq_getElem?_getD, List.getElem?_set_self lb]
    rfl
  · have ne : x ≠ a := fun q => z ((List.getElem?_inj lc nd).mp (e.trans (q ▸ hb.symm)))
    rw [upd_ne ne, List.getD_eq_getElem?_getD, List.getElem?_set_ne (fun q => z q.symm), ← List.getD_eq_getElem?_getD]
    exact h.at_ c x e
theorem sign_snoc {a : Nat} {xs : List Bool} {b : Bool} : signOf a (xs ++ [b]) = 2 * signOf a xs + b2n b := by
  unfold signOf
  rw [List.foldl_append]
  rfl
/-- what stands while states are put into lots -/
structure FI (H H' : Hp) (n : Nat) (sg : Nat → Nat) (blk nm mb : Addr) (ds : List Nat) (block : List (Option Nat)) (nums : List Nat) (mem : List (List Nat)) (ma : List Addr) : Prop where
  sm : Same H H'
  hb : H' blk = some (.lst (block.map oV))
  hn : H' nm = some (.dK (numKv 0 nums))
  hm : H' mb = some (.lst (ma.map V.ref))
  mat : MemAt H' ma mem
  nd : ma.Nodup
  fr : ∀ a ∈ ma, H a = none ∧ a ≠ blk ∧ a ≠ nm ∧ a ≠ mb
  fb : FB n sg ds block nums mem

section
variable {P : Program} {w : World} {K : PySem.W.Frag} {mg : Str → Option Value} {base : Heap}
theorem scBlocks : FnScope ["rows", "marks", "states", "leads", "block", "numbers", "members", "state", "sign", "target"] ["rows", "marks", "states", "leads"] (defScope sBlocks) := ⟨rfl, rfl, rfl, by decide +kernel, rfl, by decide +kernel, by decide +kernel⟩
def spBlocks : Sp := fun vs H Q _ => ∃ (L : Nat) (rs : Rows) (es : List Bool) (t u : Bool) (pr mk st ld : Addr) (rvs : List V) (states M : List Nat), vs = [.ref pr, .ref mk, .ref st, .ref ld] ∧ GOk L rs ∧ es.length = rs.length ∧ GA H L rs t u pr rvs ∧ H mk = some (.lst ((es.map b2n).map natV)) ∧ H st = some (.lst (states.map natV)) ∧ states.Nodup ∧ (∀ s ∈ states, s < rs.length) ∧ H ld = some (.lst (knB rs.length M)) ∧
  ∀ (H' : Hp) (r blk mb nm : Addr) (block : List (Option Nat)) (nums : List Nat) (mem : List (List Nat)) (ma : List Addr), FI H H' rs.length (sgS rs es fun t => decide (t ∈ M)) blk nm mb states block nums mem ma → H blk = none → H mb = none → blk ≠ mb → Rd H' r (.tup [.ref blk, .ref mb]) → Q (.ref r) H'
theorem ok_blocks {f : Addr} {fd : FuncData} (F : Fun K "first_blocks" "first_blocks" sBlocks f fd) (T : Mg mg) : FnOk P w K mg base CX0 1 f fd ["rows", "marks", "states", "leads"] spBlocks := by
  refine F.ok scBlocks (fun vs H Q E h => ?_) (fun cdv A outer s H vs Q E hr h => ?_)
  · obtain ⟨L, rs, es, kt, ku, pr, mk, st, ld, rvs, states, M, rfl, _⟩ := h
    rfl
  · obtain ⟨L, rs, es, kt, ku, pr, mk, st, ld, rvs, states, M, rfl, Mo, esl, MM, hmk, hst, snd, slt, hld, k⟩ := h
    have hu1 := hu_of hr
    have l4 := Mo.lN
    have l1 := Mo.l1
    have hlen := MM.hl
    have sle : states.length ≤ rs.length := nodup_len snd slt
    refine ⟨_, (pss_cons (ps_set (i := 4) scBlocks.nd rfl (.inl rfl) (pe_op op_rep (pe_lst (pa_cons pe_non pa_nil)) (pe_callB (r := rLen K) call_len_seq (by rfl) T.len PySem.boot_len (pa_cons (pv 0) pa_nil))))
      (pss_cons (ps_set (i := 5) scBlocks.nd rfl (.inl rfl) pe_dnewK)
      (pss_cons (ps_set (i := 6) scBlocks.nd rfl (.inl rfl) (pe_lst pa_nil))
      (pss_cons (ps_for PassesOwn.never rfl (pi_list (pv 2)) (pg_name (i := 7) scBlocks.nd rfl (.inl rfl)) (pss_cons (ps_set (i := 8) scBlocks.nd rfl (.inl rfl) (pe_ix (r := rIxL K) ix_list (pv 1) (pv 7) (fun _ _ => rfl)))
      (pss_cons (ps_for PassesOwn.never rfl (pi_seq (pe_ix (r := rIxQ) ix_any (pv 0) (pv 7) (fun _ _ => rfl))) (pg_name (i := 9) scBlocks.nd rfl (.inl rfl)) (pss_one (ps_set (i := 8) scBlocks.nd rfl (.inl rfl) (pe_op op_add (pe_op op_mul pe_int (pv 8)) (pe_ifExp (PW.pt (pw_and (pt_cmp (pc_notN (pv 9))) (pw_and1 (pt_val (pe_ix (r := rIxL K) ix_list (pv 3) (pv 9) (fun _ _ => rfl)))))) pe_int pe_int)))))
      (pss_cons (ps_if (pt_cmp (pc_dnotin hu1 (pv 8) (pv 5))) (pss_cons (ps_asg (pe_callB (r := rLen K) call_len_seq (by rfl) T.len PySem.boot_len (pa_cons (pv 6) pa_nil)) (pg_sub (pv 5) (pv 8) (set_dict hu1)))
      (pss_one (ps_expr (pe_bm PySem.F.plainAttrs_list PySem.F.slot_list_append PySem.F.type_list_append mt_append (pv 6) (pa_cons (pe_lst pa_nil) pa_nil))))) pss_nil)
      (pss_cons (ps_asg (pe_dget hu1 (pv 5) (pv 8) (fun _ _ => rfl)) (pg_sub (pv 4) (pv 7) set_list))
      (pss_one (ps_expr (pe_bm PySem.F.plainAttrs_list PySem.F.slot_list_append PySem.F.type_list_append mt_append (pe_ix (r := rIxL K) ix_list (pv 6) (pe_dget hu1 (pv 5) (pv 8) (fun _ _ => rfl)) (fun _ _ => rfl)) (pa_cons (pv 7) pa_nil)))))))))
      (pss_one (ps_ret (pe_tup (pa_cons (pv 4) (pa_cons (pv 6) pa_nil))))))))), ?_⟩
    refine ⟨by show 1 ≤ sizeLine; decide, fun t ht => ?_⟩
    have s2 := same_new (o := .lst [.non]) ht
    refine ⟨_, rfl, pr, rvs, rfl, (MM.hr.same s2).any, t, (rvs.length : Int), [V.non], rfl, rfl, upd_same, by omega, by omega, sz_big (by rw [List.length_singleton]; omega), fun blk hk => ?_⟩
    have e0 : (List.replicate (rvs.length : Int).toNat [V.non]).flatten = (List.replicate rs.length (none : Option Nat)).map oV := by
      rw [hlen, List.map_replicate, show (rs.length : Int).toNat = rs.length from Int.toNat_natCast _, List.flatten_replicate_singleton]
      rfl
    rw [e0]
    have s3 := same_new (o := .lst ((List.replicate rs.length (none : Option Nat)).map oV)) hk
    have hb1 : (upd (upd H t (.lst [.non])) blk (.lst ((List.replicate rs.length (none : Option Nat)).map oV))) blk = some (.lst ((List.replicate rs.length (none : Option Nat)).map oV)) := upd_same
    have b0 : H blk = none := s2.free hk
    have sA := s2.trans s3
    generalize upd (upd H t (.lst [.non])) blk (.lst ((List.replicate rs.length (none : Option Nat)).map oV)) = G1 at *
    intro nm hnm
    have s4 := same_new (o := .dK []) hnm
    have hn2 : (upd G1 nm (.dK [])) nm = some (.dK (numKv 0 [])) := upd_same
    have hb2 := s4 _ _ hb1
    have n0 : H nm = none := sA.free hnm
    have sB := sA.trans s4
    have nbm : nm ≠ blk := fun z => by rw [z, hb1] at hnm; cases hnm
    generalize upd G1 nm (.dK []) = G2 at *
    refine ⟨by show 0 ≤ sizeLine; decide, fun mb hmb => ?_⟩
    have s5 := same_new (o := .lst []) hmb
    have hm3 : (upd G2 mb (.lst [])) mb = some (.lst (([] : List Addr).map V.ref)) := upd_same
    have m0 : H mb = none := sB.free hmb
    have nmb : mb ≠ blk := fun z => by rw [z, hb2] at hmb; cases hmb
    have nmn : mb ≠ nm := fun z => by rw [z, hn2] at hmb; cases hmb
    have FI0 : FI H (upd G2 mb (.lst [])) rs.length (sgS rs es fun t => decide (t ∈ M)) blk nm mb [] (List.replicate rs.length none) [] [] [] := ⟨sB.trans s5, s5 _ _ hb2, s5 _ _ hn2, hm3, ⟨rfl, fun b a e => by cases e⟩, List.nodup_nil, fun a h => absurd h List.not_mem_nil, fb_start⟩
    generalize upd G2 mb (.lst []) = G3 at *
    refine ⟨_, rfl, st, rfl, ⟨_, SqL.of (FI0.sm _ _ hst)⟩, ?_⟩
    refine for_list (K := K) (a := st) (xs := states.map natV) (fun i σ H' => (∃ y7 y8 y9, σ = [some (.ref pr), some (.ref mk), some (.ref st), some (.ref ld), some (.ref blk), some (.ref nm), some (.ref mb), y7, y8, y9]) ∧ ∃ block nums mem ma, FI H H' rs.length (sgS rs es fun t => decide (t ∈ M)) blk nm mb (states.take i) block nums mem ma) ⟨⟨_, _, _, rfl⟩, _, _, _, _, FI0⟩ (fun i σ H' _ p => by
      obtain ⟨_, _, _, _, _, h⟩ := p
      exact SqL.of (h.sm _ _ hst)) ?_ ?_
    · rintro i x σ H2 hx ⟨⟨y7, y8, y9, rfl⟩, block, nums, mem, ma, fi⟩
      obtain ⟨u, hu, rfl⟩ := natV_of hx
      have hun := slt u (List.mem_of_getElem? hu)
      have hue : u < es.length := by rw [esl]; exact hun
      have tk : states.take (i + 1) = states.take i ++ [u] := by rw [List.take_add_one, hu]; rfl
      have hnd : u ∉ states.take i := by
        have := snd
        rw [← List.take_append_drop (i + 1) states, tk] at this
        have := (List.nodup_append.mp this).1
        exact fun q => (List.nodup_append.mp this).2.2 u q u List.mem_cons_self rfl
      have emk : ((es.map b2n).map natV)[u]? = some (natV (b2n (es.getD u false))) := by
        rw [List.getElem?_map, List.getElem?_map, List.getElem?_eq_getElem hue, getD_at hue]
        rfl
      have hmk2 := fi.sm _ _ hmk
      refine ⟨_, rfl, _, rfl, mk, _, (u : Int), _, rfl, rfl, SqL.of hmk2, atI_nat emk, ?_⟩
      have hrow : rs[u]? = some rs[u] := List.getElem?_eq_getElem hun
      have hbits : bitsOf rs (fun t => decide (t ∈ M)) u = (rs[u]).map (lvO fun t => decide (t ∈ M)) := by
        unfold bitsOf
        rw [getD_at hun]
      have hmr := List.getElem_mem hun
      generalize rs[u] = row at *
      obtain ⟨q, hq1, hq0⟩ := MM.row u row hrow
      have hq2 := hq0.same fi.sm
      have hld2 := fi.sm _ _ hld
      refine ⟨_, rfl, _, rfl, kt, pr, rvs, (u : Int), _, rfl, rfl, MM.hr.same fi.sm, atI_nat hq1, ku, q, _, rfl, hq2, ?_⟩
      refine for_seq (t := ku) (K := K) (a := q) (xs := row.map oV) (fun j σ H' => (∃ y9, σ = [some (.ref pr), some (.ref mk), some (.ref st), some (.ref ld), some (.ref blk), some (.ref nm), some (.ref mb), some (.int (u : Int)), some (.int ((signOf (b2n (es.getD u false)) ((row.take j).map (lvO fun t => decide (t ∈ M))) : Nat) : Int)), y9]) ∧ H' = H2) ⟨⟨_, rfl⟩, rfl⟩ (fun j σ H' _ p => by rw [p.2]; exact hq2) ?_ ?_
      · rintro j x σ H3 hx ⟨⟨y9, rfl⟩, rfl⟩
        rw [List.getElem?_map] at hx
        obtain ⟨tg, hj, rfl⟩ := Option.map_eq_some_iff.mp hx
        have tkj : row.take (j + 1) = row.take j ++ [tg] := by rw [List.take_add_one, hj]; rfl
        have sn : signOf (b2n (es.getD u false)) ((row.take (j + 1)).map (lvO fun t => decide (t ∈ M))) = 2 * signOf (b2n (es.getD u false)) ((row.take j).map (lvO fun t => decide (t ∈ M))) + b2n (lvO (fun t => decide (t ∈ M)) tg) := by
          rw [tkj, List.map_append]
          exact sign_snoc
        rw [sn]
        generalize signOf (b2n (es.getD u false)) ((row.take j).map (lvO fun t => decide (t ∈ M))) = sg0
        refine ⟨_, rfl, 2, (sg0 : Int), rfl, rfl, .inl ⟨by decide, by decide⟩, ?_⟩
        have fin : ∀ (b : Bool) (z : Int), z = (b2n b : Int) → ∃ y9 : Option V, ([some (.ref pr), some (.ref mk), some (.ref st), some (.ref ld), some (.ref blk), some (.ref nm), some (.ref mb), some (V.int (u : Int)), some (V.int (2 * (sg0 : Int) + z)), some (oV tg)] : List (Option V)) = [some (.ref pr), some (.ref mk), some (.ref st), some (.ref ld), some (.ref blk), some (.ref nm), some (.ref mb), some (.int (u : Int)), some (.int ((2 * sg0 + b2n b : Nat) : Int)), y9] := fun b z e => ⟨some (oV tg), by rw [e]; push_cast; rfl⟩
        refine ⟨_, rfl, _, rfl, ?_⟩
        cases tg with
        | none => exact ⟨_, _, rfl, rfl, fin false 0 rfl, rfl⟩
        | some t =>
          have tl := Mo.tgt row hmr t (List.mem_of_getElem? hj)
          refine ⟨_, rfl, _, rfl, ld, _, (t : Int), _, rfl, rfl, SqL.of hld2, atI_nat (knB_get tl), _, rfl, ?_⟩
          by_cases hin : t ∈ M
          · rw [show lvO (fun t => decide (t ∈ M)) (some t) = true from decide_eq_true hin, decide_eq_true hin]
            exact ⟨_, _, rfl, rfl, fin true 1 rfl, rfl⟩
          · rw [show lvO (fun t => decide (t ∈ M)) (some t) = false from decide_eq_false hin, decide_eq_false hin]
            exact ⟨_, _, rfl, rfl, fin false 0 rfl, rfl⟩
      · rintro σ H3 ⟨⟨y9, rfl⟩, rfl⟩
        rw [List.length_map, List.take_length, ← hbits]
        have esg : signOf (b2n (es.getD u false)) (bitsOf rs (fun t => decide (t ∈ M)) u) = sgS rs es (fun t => decide (t ∈ M)) u := rfl
        rw [esg]
        generalize hsg : sgS rs es (fun t => decide (t ∈ M)) u = sg0
        have memlen : ∀ b, (mem.getD b []).length ≤ 1000000 := fun b => by
          rcases Nat.lt_or_ge b mem.length with q | q
          · have := fi.fb.ms b _ (List.getElem?_eq_getElem (by rw [← fi.fb.lm]; exact q))
            rw [List.getD_eq_getElem?_getD, this]
            show (List.filter _ _).length ≤ 1000000
            refine Nat.le_trans (List.length_filter_le _ _) ?_
            rw [List.length_take]
            omega
          · rw [List.getD_eq_getElem?_getD, List.getElem?_eq_none q]
            exact Nat.zero_le _
        have nle : nums.length ≤ 1000000 := by
          have h1 := fi.fb.sum
          have h2 := sum_ge (zs := mem.map List.length) fun z hz => by
            obtain ⟨xs, hx, rfl⟩ := List.mem_map.mp hz
            obtain ⟨b, hb⟩ := List.mem_iff_getElem?.mp hx
            have lb := (List.getElem?_eq_some_iff.mp hb).1
            obtain ⟨g, hg⟩ : ∃ g, nums[b]? = some g := ⟨_, List.getElem?_eq_getElem (by rw [← fi.fb.lm]; exact lb)⟩
            obtain ⟨s0, hs0, es0⟩ := fi.fb.ne b g hg
            rw [fi.fb.ms b g hg] at hb
            rw [← Option.some.inj hb]
            exact List.length_pos_of_mem (List.mem_filter.mpr ⟨hs0, decide_eq_true es0⟩)
          have h3 := fi.fb.lm
          rw [List.length_map, h1, List.length_take] at h2
          omega
        have dg0 : DGet H3 nm (.int (sg0 : Int)) (valV (numKv 0 nums) (.inl (sg0 : Int))) := DGet.k (k := .inl (sg0 : Int)) fi.hn
        refine ⟨_, rfl, _, rfl, nm, _, rfl, dg0, _, rfl, ?_⟩
        by_cases hin : sg0 ∈ nums
        · obtain ⟨i0, hi⟩ := List.mem_iff_getElem?.mp hin
          have nv := numKv_at nums 0 i0 sg0 fi.fb.nd hi
          rw [Nat.zero_add] at nv
          rw [nv]
          have gn := fi.hn
          have gb := fi.hb
          have gsm := fi.sm
          have gm := fi.hm
          have gt := fi.mat
          have gf := fi.fr
          have gd := fi.nd
          have gfb := fi.fb.more hun hnd (by rw [hsg]; exact hi)
          have il := (List.getElem?_eq_some_iff.mp hi).1
          obtain ⟨a0, hma⟩ : ∃ a0, ma[i0]? = some a0 := ⟨_, List.getElem?_eq_getElem (by rw [fi.mat.ln, fi.fb.lm]; exact il)⟩
          have dgi : DGet H3 nm (.int (sg0 : Int)) (some (.int (i0 : Int))) := by
            have := DGet.k (k := .inl (sg0 : Int)) gn
            rw [nv] at this
            exact this
          refine ⟨_, rfl, _, rfl, nm, _, rfl, dgi, _, rfl, _, rfl, blk, _, (u : Int), u, rfl, rfl, gb, Evl.ixN_nat (by rw [List.length_map, fi.fb.lb]; exact hun), ?_⟩
          have eb : (block.map oV).set u (V.int (i0 : Int)) = (block.set u (some i0)).map oV := by
            rw [List.map_set]
            rfl
          rw [eb]
          have ua : ∀ {z : Addr} {o : HO}, z ≠ blk → H3 z = some o → (upd H3 blk (.lst ((block.set u (some i0)).map oV))) z = some o := fun ne e => by rw [upd_ne ne]; exact e
          have sm8 : Same H (upd H3 blk (.lst ((block.set u (some i0)).map oV))) := fun z o e => ua (fun q => by rw [q, b0] at e; cases e) (gsm _ _ e)
          have hn8 := ua nbm gn
          have hm8 := ua nmb gm
          have mat8 := gt.keep (W := fun b => b = blk) (H' := upd H3 blk (.lst ((block.set u (some i0)).map oV))) (fun b o nb e => ua nb e) (fun x hx => (gf x hx).2.1)
          have hb8 : (upd H3 blk (.lst ((block.set u (some i0)).map oV))) blk = some (.lst ((block.set u (some i0)).map oV)) := upd_same
          generalize upd H3 blk (.lst ((block.set u (some i0)).map oV)) = G8 at *
          have dgj : DGet G8 nm (.int (sg0 : Int)) (some (.int (i0 : Int))) := by
            have := DGet.k (k := .inl (sg0 : Int)) hn8
            rw [nv] at this
            exact this
          have ha8 := mat8.at_ i0 a0 hma
          obtain ⟨a00, a01, a02, a03⟩ := gf a0 (List.mem_of_getElem? hma)
          have ml : (mem.getD i0 []).length ≤ 1000000 := memlen _
          refine ⟨_, rfl, _, rfl, _, rfl, nm, _, rfl, dgj, mb, _, (i0 : Int), V.ref a0, rfl, rfl, SqL.of hm8, atI_nat (v := V.ref a0) (by rw [List.getElem?_map, hma]; rfl), .inl ⟨rfl, _, SqL.of ha8⟩, _, rfl, a0, _, _, rfl, rfl, ha8, small9 (by rw [List.length_map]; exact ml), ?_⟩
          have ea : (mem.getD i0 []).map natV ++ [V.int (u : Int)] = (mem.getD i0 [] ++ [u]).map natV := by
            rw [List.map_append]
            rfl
          rw [ea]
          refine ⟨⟨_, _, _, rfl⟩, block.set u (some i0), nums, mem.set i0 (mem.getD i0 [] ++ [u]), ma, ⟨fun z o e => ?_, by rw [upd_ne a01.symm]; exact hb8, by rw [upd_ne a02.symm]; exact hn8, by rw [upd_ne a03.symm]; exact hm8, mat8.upd gd hma _, gd, gf, by rw [tk]; exact gfb⟩⟩
          rw [upd_ne (fun q => by rw [q, a00] at e; cases e)]
          exact sm8 _ _ e
        · rw [numKv_no hin]
          have nl15 : (numKv 0 nums).length < sizeLine := small9 (by rw [numKv_len]; exact nle)
          have lma : ma.length = nums.length := by rw [fi.mat.ln, fi.fb.lm]
          have dp : DPut H3 nm (.int (sg0 : Int)) (.int ((ma.map V.ref).length : Int)) (upd H3 nm (.dK (numKv 0 (nums ++ [sg0])))) := by
            have := DPut.k (k := .inl (sg0 : Int)) (v := .int ((ma.map V.ref).length : Int)) fi.hn nl15
            rw [List.length_map, lma, numKv_put hin] at this
            rw [List.length_map, lma]
            exact this
          have u1 : ∀ {z : Addr} {o : HO}, z ≠ nm → H3 z = some o → (upd H3 nm (.dK (numKv 0 (nums ++ [sg0])))) z = some o := fun ne e => by rw [upd_ne ne]; exact e
          have n1n : (upd H3 nm (.dK (numKv 0 (nums ++ [sg0])))) nm = some (.dK (numKv 0 (nums ++ [sg0]))) := upd_same
          have n1b := u1 nbm.symm fi.hb
          have n1m := u1 nmn fi.hm
          have n1s : Same H (upd H3 nm (.dK (numKv 0 (nums ++ [sg0])))) := fun z o e => u1 (fun q => by rw [q, n0] at e; cases e) (fi.sm _ _ e)
          have n1t := fi.mat.keep (W := fun b => b = nm) (H' := upd H3 nm (.dK (numKv 0 (nums ++ [sg0])))) (fun b o nb e => u1 nb e) (fun x hx => (fi.fr x hx).2.2.1)
          refine ⟨_, rfl, mb, _, rfl, .inl (SqL.of fi.hm), _, rfl, _, rfl, nm, _, rfl, dp, ?_⟩
          generalize upd H3 nm (.dK (numKv 0 (nums ++ [sg0]))) = G1 at *
          refine ⟨_, rfl, .inl ⟨rfl, _, SqL.of n1m⟩, by show 0 ≤ sizeLine; decide, fun a0 na => ?_⟩
          have sa := same_new (o := .lst []) na
          have am : a0 ≠ mb := fun q => by rw [q, n1m] at na; cases na
          have ab : a0 ≠ blk := fun q => by rw [q, n1b] at na; cases na
          have an : a0 ≠ nm := fun q => by rw [q, n1n] at na; cases na
          have aH : H a0 = none := n1s.free na
          have ama : a0 ∉ ma := fun q => by
            obtain ⟨b, hb⟩ := List.mem_iff_getElem?.mp q
            rw [n1t.at_ b a0 hb] at na
            cases na
          refine ⟨mb, _, _, rfl, rfl, sa _ _ n1m, small9 (by rw [List.length_map]; omega), ?_⟩
          have em : ma.map V.ref ++ [V.ref a0] = (ma ++ [a0]).map V.ref := by
            rw [List.map_append]
            rfl
          rw [em]
          have u2 : ∀ {z : Addr} {o : HO}, z ≠ mb → (upd G1 a0 (.lst [])) z = some o → (upd (upd G1 a0 (.lst [])) mb (.lst ((ma ++ [a0]).map V.ref))) z = some o := fun ne e => by rw [upd_ne ne]; exact e
          have gn := u2 nmn.symm (sa _ _ n1n)
          have gb := u2 nmb.symm (sa _ _ n1b)
          have gm : (upd (upd G1 a0 (.lst [])) mb (.lst ((ma ++ [a0]).map V.ref))) mb = some (.lst ((ma ++ [a0]).map V.ref)) := upd_same
          have gsm : Same H (upd (upd G1 a0 (.lst [])) mb (.lst ((ma ++ [a0]).map V.ref))) := fun z o e => u2 (fun q => by rw [q, m0] at e; cases e) (sa _ _ (n1s _ _ e))
          have gt : MemAt (upd (upd G1 a0 (.lst [])) mb (.lst ((ma ++ [a0]).map V.ref))) (ma ++ [a0]) (mem ++ [[]]) := ((n1t.keep (W := fun _ => False) (Keep.same sa) (fun _ _ z => z)).keep (W := fun b => b = mb) (fun b o nb e => u2 nb e) (fun x hx => (fi.fr x hx).2.2.2)).push (u2 am upd_same)
          have gd : (ma ++ [a0]).Nodup := by
            rw [List.nodup_append]
            refine ⟨fi.nd, List.nodup_cons.mpr ⟨List.not_mem_nil, List.nodup_nil⟩, fun x hx y hy e => ?_⟩
            rw [List.mem_singleton.mp hy] at e
            exact ama (e ▸ hx)
          have gf : ∀ a ∈ ma ++ [a0], H a = none ∧ a ≠ blk ∧ a ≠ nm ∧ a ≠ mb := fun x hx => by
            rcases List.mem_append.mp hx with hx | hx
            · exact fi.fr x hx
            · rw [List.mem_singleton.mp hx]
              exact ⟨aH, ab, an, am⟩
          generalize upd (upd G1 a0 (.lst [])) mb (.lst ((ma ++ [a0]).map V.ref)) = G2 at *
          have fb' := fi.fb.fresh hun hnd (by rw [hsg]; exact hin)
          rw [hsg] at fb'
          obtain ⟨i0, ei0⟩ : ∃ i0, i0 = nums.length := ⟨_, rfl⟩
          have nv := numKv_at (nums ++ [sg0]) 0 i0 sg0 fb'.nd (by rw [ei0, List.getElem?_append_right (Nat.le_refl _), Nat.sub_self]; rfl)
          rw [Nat.zero_add] at nv
          have hma : (ma ++ [a0])[i0]? = some a0 := by rw [ei0, ← lma, List.getElem?_append_right (Nat.le_refl _), Nat.sub_self]; rfl
          have eqm : mem.length = i0 := by rw [ei0, fi.fb.lm]
          have mg0 : (mem ++ [[]]).getD i0 [] = ([] : List Nat) := by rw [← eqm, List.getD_eq_getElem?_getD, List.getElem?_append_right (Nat.le_refl _), Nat.sub_self]; rfl
          have ms0 : (mem ++ [[]]).set i0 ((mem ++ [[]]).getD i0 [] ++ [u]) = mem ++ [[u]] := by
            rw [mg0, ← eqm, List.set_append_right _ _ (Nat.le_refl _), Nat.sub_self]
            rfl
          have gfb : FB rs.length (sgS rs es fun t => decide (t ∈ M)) (states.take i ++ [u]) (block.set u (some i0)) (nums ++ [sg0]) ((mem ++ [[]]).set i0 ((mem ++ [[]]).getD i0 [] ++ [u])) := by
            rw [ms0, ← eqm]
            exact fb'
          have memlen : ∀ b, b = i0 → ((mem ++ [[]]).getD b []).length ≤ 1000000 := fun b e => by rw [e, mg0]; exact Nat.zero_le _
          have dgi : DGet G2 nm (.int (sg0 : Int)) (some (.int (i0 : Int))) := by
            have := DGet.k (k := .inl (sg0 : Int)) gn
            rw [nv] at this
            exact this
          refine ⟨_, rfl, _, rfl, nm, _, rfl, dgi, _, rfl, _, rfl, blk, _, (u : Int), u, rfl, rfl, gb, Evl.ixN_nat (by rw [List.length_map, fi.fb.lb]; exact hun), ?_⟩
          have eb : (block.map oV).set u (V.int (i0 : Int)) = (block.set u (some i0)).map oV := by
            rw [List.map_set]
            rfl
          rw [eb]
          have ua : ∀ {z : Addr} {o : HO}, z ≠ blk → G2 z = some o → (upd G2 blk (.lst ((block.set u (some i0)).map oV))) z = some o := fun ne e => by rw [upd_ne ne]; exact e
          have sm8 : Same H (upd G2 blk (.lst ((block.set u (some i0)).map oV))) := fun z o e => ua (fun q => by rw [q, b0] at e; cases e) (gsm _ _ e)
          have hn8 := ua nbm gn
          have hm8 := ua nmb gm
          have mat8 := gt.keep (W := fun b => b = blk) (H' := upd G2 blk (.lst ((block.set u (some i0)).map oV))) (fun b o nb e => ua nb e) (fun x hx => (gf x hx).2.1)
          have hb8 : (upd G2 blk (.lst ((block.set u (some i0)).map oV))) blk = some (.lst ((block.set u (some i0)).map oV)) := upd_same
          generalize upd G2 blk (.lst ((block.set u (some i0)).map oV)) = G8 at *
          have dgj : DGet G8 nm (.int (sg0 : Int)) (some (.int (i0 : Int))) := by
            have := DGet.k (k := .inl (sg0 : Int)) hn8
            rw [nv] at this
            exact this
          have ha8 := mat8.at_ i0 a0 hma
          obtain ⟨a00, a01, a02, a03⟩ := gf a0 (List.mem_of_getElem? hma)
          have ml : ((mem ++ [[]]).getD i0 []).length ≤ 1000000 := memlen _ rfl
          refine ⟨_, rfl, _, rfl, _, rfl, nm, _, rfl, dgj, mb, _, (i0 : Int), V.ref a0, rfl, rfl, SqL.of hm8, atI_nat (v := V.ref a0) (by rw [List.getElem?_map, hma]; rfl), .inl ⟨rfl, _, SqL.of ha8⟩, _, rfl, a0, _, _, rfl, rfl, ha8, small9 (by rw [List.length_map]; exact ml), ?_⟩
          have ea : ((mem ++ [[]]).getD i0 []).map natV ++ [V.int (u : Int)] = ((mem ++ [[]]).getD i0 [] ++ [u]).map natV := by
            rw [List.map_append]
            rfl
          rw [ea]
          refine ⟨⟨_, _, _, rfl⟩, block.set u (some i0), (nums ++ [sg0]), (mem ++ [[]]).set i0 ((mem ++ [[]]).getD i0 [] ++ [u]), (ma ++ [a0]), ⟨fun z o e => ?_, by rw [upd_ne a01.symm]; exact hb8, by rw [upd_ne a02.symm]; exact hn8, by rw [upd_ne a03.symm]; exact hm8, mat8.upd gd hma _, gd, gf, by rw [tk]; exact gfb⟩⟩
          rw [upd_ne (fun q => by rw [q, a00] at e; cases e)]
          exact sm8 _ _ e
    · rintro σ H2 ⟨⟨y7, y8, y9, rfl⟩, block, nums, mem, ma, fi⟩
      rw [List.length_map, List.take_length] at fi
      refine ⟨_, rfl, _, rfl, by show 2 ≤ sizeLine; decide, fun r nr => ?_⟩
      have sr := same_new (o := .tup [.ref blk, .ref mb]) nr
      refine k _ r blk mb nm block nums mem ma ⟨fi.sm.trans sr, sr _ _ fi.hb, sr _ _ fi.hn, sr _ _ fi.hm, fi.mat.keep (W := fun _ => False) (Keep.same sr) (fun _ _ z => z), fi.nd, fi.fr, fi.fb⟩ b0 m0 nmb.symm (.inl upd_same)
end
/-! ### list(range(n)) -/
section
variable {X : Cx}
theorem ps_dead {st : Stmt} : PS X st (fun _ _ _ => False) := ⟨fun _ _ _ _ _ _ h => h.elim⟩
theorem cr_range1 : CallR X (.type "range") (fun vs H Q => ∃ n : Int, vs = [V.int n] ∧ ∀ p, H p = none → Q (.ref p) (upd H p (.rng 0 n))) := by
  intro pins s σ H vs us Q I r h
  obtain ⟨n, rfl, q⟩ := h
  obtain ⟨u1, rfl, ri⟩ := vals1 r
  obtain ⟨t, rfl⟩ := ri
  refine call_range_1 ⟨.ref s.heap.objs.size, upd H s.heap.objs.size (.rng 0 n), I.laid (t' := s.toks + 1 + 1) (fun b o e => Heap.get?_push_of_some _ e) (Nat.le_refl _) ?_, rfl, q _ (I.hok.fresh (Nat.le_refl _))⟩
  exact ⟨_, _, _, Heap.get?_push_size _ rfl⟩
theorem vals_range : ∀ (n k : Nat) (acc : List Value), acc.length = n → (∀ (j : Nat) (v : Value), acc[j]? = some v → ∃ t, v = Value.int ((k + j : Nat) : Int) t) → Vals ((List.range' k n).map natV) acc
  | 0, k, acc, hl, _ => by
    rw [List.eq_nil_of_length_eq_zero hl]
    exact .nil
  | n + 1, k, acc, hl, h => by
    cases acc with
    | nil => cases hl
    | cons v acc =>
      rw [List.range'_succ, List.map_cons]
      obtain ⟨t, e⟩ := h 0 v rfl
      refine .cons ⟨t, by rw [e]; rfl⟩ (vals_range n (k + 1) acc (Nat.succ.inj hl) fun j w hj => ?_)
      obtain ⟨t, e⟩ := h (j + 1) w hj
      exact ⟨t, by rw [e, show k + (j + 1) = k + 1 + j by omega]⟩
def rListR : List V → Hp → VK → Prop := fun xs H Q => ∃ (a : Addr) (n : Nat), xs = [.ref a] ∧ H a = some (.rng 0 (n : Int)) ∧ n ≤ 1000000 ∧ ∀ p H', Same H H' → H p = none → H' p = some (.lst ((List.range n).map natV)) → Q (.ref p) H'
theorem call_listR (hc : X.calm = true) : CallR X (.type "list") rListR := by
  intro pins s σ H xs us Q I r h
  obtain ⟨a, n, rfl, ha, hn, q⟩ := h
  obtain ⟨u, rfl, rx⟩ := vals1 r
  cases rx
  obtain ⟨t1, t2, t3, ho⟩ := I.hok a _ ha
  refine call_list_range (n := n) (I.ok.hd hc) ho ?_ ?_ (by omega) (fun h' tk acc c hk hS hacc => ?_)
  · have fl : ∀ z : Int, -1000000 ≤ z → z ≤ 1000000 → Builtin.Range.rangeFitsLong z = true := fun z h1 h2 => by
      unfold Builtin.Range.rangeFitsLong
      simp
      omega
    have es : Builtin.Range.rangeSize 0 (n : Int) 1 = (n : Int) := by
      rw [PySem.rangeSize_one]
      split <;> omega
    unfold Builtin.Range.small
    simp
    rw [es]
    exact ⟨⟨⟨⟨fl 0 (by omega) (by omega), fl _ (by omega) (by omega)⟩, fl 1 (by omega) (by omega)⟩, fl _ (by omega) (by omega)⟩, .inr (fl _ (by omega) (by omega))⟩
  · rw [PySem.rangeSize_one]
    split <;> omega
  · have hv : Vals ((List.range n).map natV) acc.toList := by
      rw [List.range_eq_range']
      refine vals_range n 0 acc.toList (by rw [Array.length_toList, hacc.1]) fun j v hv => ?_
      obtain ⟨t, e⟩ := hacc.2 j v (by rw [← Array.getElem?_toList]; exact hv)
      exact ⟨t, by rw [e]; congr 1; omega⟩
    have np := I.fresh
    refine ⟨.ref s.heap.objs.size, _, I.laid (o := .lst ((List.range n).map natV)) (t' := tk) hk (Nat.le_refl _) ⟨?_, acc.toList, c, hv, by simpa using hS⟩, rfl, q _ _ (same_new np) np upd_same⟩
    rw [List.length_map, List.length_range]
    exact Nat.le_trans hn (by decide)
end
/-! ### a dict of lists, by the order in which they came -/
def tKv (ks : List (Nat × Addr)) : List (Key × V) := ks.map fun p => (.inl (p.1 : Int), .ref p.2)
theorem tKv_no {ks : List (Nat × Addr)} {k : Nat} (h : k ∉ ks.map Prod.fst) : (tKv ks).any (fun kv => decide (kv.1 = (.inl (k : Int) : Key))) = false ∧ valV (tKv ks) (.inl (k : Int)) = none := by
  have h1 : (tKv ks).any (fun kv => decide (kv.1 = (.inl (k : Int) : Key))) = false := by
    rw [List.any_eq_false]
    intro x hx
    obtain ⟨p, hp, rfl⟩ := List.mem_map.mp hx
    rw [decide_eq_true_eq]
    exact inl_ne fun e => h (List.mem_map.mpr ⟨p, hp, e⟩)
  refine ⟨h1, ?_⟩
  unfold valV
  rw [List.any_eq_false] at h1
  rw [List.find?_eq_none.mpr fun x hx => h1 x hx]
  rfl
theorem tKv_at : ∀ {ks : List (Nat × Addr)} {i k : Nat} {a : Addr}, (ks.map Prod.fst).Nodup → ks[i]? = some (k, a) → valV (tKv ks) (.inl (k : Int)) = some (.ref a)
  | [], _, _, _, _, h => by cases h
  | p :: ks, 0, k, a, _, h => by
    cases h
    unfold valV tKv
    rw [List.map_cons, List.find?_cons_of_pos (by exact decide_eq_true rfl)]
    rfl
  | p :: ks, i + 1, k, a, nd, h => by
    rw [List.map_cons] at nd
    obtain ⟨n1, n2⟩ := List.nodup_cons.mp nd
    have h' : ks[i]? = some (k, a) := h
    have ne : p.1 ≠ k := fun e => n1 (e ▸ List.mem_map.mpr ⟨(k, a), List.mem_of_getElem? h', rfl⟩)
    have ih := tKv_at n2 h'
    unfold valV tKv at ih ⊢
    rw [List.map_cons, List.find?_cons_of_neg (by rw [decide_eq_true_eq]; exact inl_ne ne)]
    exact ih
theorem tKv_put {ks : List (Nat × Addr)} {k : Nat} {a : Addr} (h : k ∉ ks.map Prod.fst) : putK (tKv ks) (.inl (k : Int)) (.ref a) = tKv (ks ++ [(k, a)]) := by
  unfold putK
  rw [if_neg (by rw [(tKv_no h).1]; exact Bool.false_ne_true)]
  unfold tKv
  rw [List.map_append]
  rfl
/-! ### splitting, read -/
structure RfI (H0 H : Hp) (blk mb sz wt qu : Addr) (block : List (Option Nat)) (mem : List (List Nat)) (sizes : List Nat) (wait : List Bool) (queue : List Nat) (ma : List Addr) : Prop where
  kp : Keep (fun b => b = blk ∨ b = mb) H0 H
  hb : H blk = some (.lst (block.map oV))
  hm : H mb = some (.lst (ma.map V.ref))
  mat : MemAt H ma mem
  hs : H sz = some (.lst (sizes.map natV))
  hw : H wt = some (.lst (wait.map V.bl))
  hq : H qu = some (.lst (queue.map natV))
  fm : ∀ a ∈ ma, a ≠ blk ∧ a ≠ mb ∧ a ≠ sz ∧ a ≠ wt ∧ a ≠ qu
  ds : blk ≠ mb ∧ sz ≠ blk ∧ sz ≠ mb ∧ wt ≠ blk ∧ wt ≠ mb ∧ wt ≠ sz ∧ qu ≠ blk ∧ qu ≠ mb ∧ qu ≠ sz ∧ qu ≠ wt
  new : H0 sz = none ∧ H0 wt = none ∧ H0 qu = none
theorem RfI.same {H0 H H' : Hp} {blk mb sz wt qu : Addr} {block : List (Option Nat)} {mem : List (List Nat)} {sizes : List Nat} {wait : List Bool} {queue : List Nat} {ma : List Addr} (h : RfI H0 H blk mb sz wt qu block mem sizes wait queue ma) (s : Same H H') : RfI H0 H' blk mb sz wt qu block mem sizes wait queue ma :=
  ⟨fun b o nb e => s _ _ (h.kp b o nb e), s _ _ h.hb, s _ _ h.hm, h.mat.keep (W := fun _ => False) (Keep.same s) (fun _ _ z => z), s _ _ h.hs, s _ _ h.hw, s _ _ h.hq, h.fm, h.ds, h.new⟩
/-- a place that is none of these is written -/
theorem RfI.off {H0 H : Hp} {blk mb sz wt qu p : Addr} {o : HO} {block : List (Option Nat)} {mem : List (List Nat)} {sizes : List Nat} {wait : List Bool} {queue : List Nat} {ma : List Addr} (h : RfI H0 H blk mb sz wt qu block mem sizes wait queue ma) (h0 : H0 p = none) (np : p ≠ blk ∧ p ≠ mb ∧ p ≠ sz ∧ p ≠ wt ∧ p ≠ qu) (nm : p ∉ ma) : RfI H0 (upd H p o) blk mb sz wt qu block mem sizes wait queue ma := by
  have up : ∀ {z : Addr} {u : HO}, z ≠ p → H z = some u → (upd H p o) z = some u := fun ne e => by rw [upd_ne ne]; exact e
  exact ⟨fun b u nb e => up (fun z => by rw [z, h0] at e; cases e) (h.kp b u nb e), up np.1.symm h.hb, up np.2.1.symm h.hm, h.mat.keep (W := fun b => b = p) (fun b u nb e => up nb e) (fun a ha z => nm (z ▸ ha)), up np.2.2.1.symm h.hs, up np.2.2.2.1.symm h.hw, up np.2.2.2.2.symm h.hq, h.fm, h.ds, h.new⟩
/-- the lists of what was touched, as they lie -/
structure TgI (H7 H' : Hp) (td : Addr) (ks : List (Nat × Addr)) (touched : List (Nat × List Nat)) : Prop where
  sm : Same H7 H'
  hd : H' td = some (.dK (tKv ks))
  td0 : H7 td = none
  ky : ks.map Prod.fst = touched.map Prod.fst
  at_ : ∀ (j k : Nat) (l : List Nat), touched[j]? = some (k, l) → ∃ a, ks[j]? = some (k, a) ∧ H' a = some (.lst (l.map natV)) ∧ H7 a = none ∧ a ≠ td
  nd : (ks.map Prod.snd).Nodup
theorem TgI.fresh {H7 H' : Hp} {td a k : Nat} {ks : List (Nat × Addr)} {touched : List (Nat × List Nat)} {l : List Nat} (h : TgI H7 H' td ks touched) (na : H' a = none) : TgI H7 (upd (upd H' a (.lst (l.map natV))) td (.dK (tKv (ks ++ [(k, a)])))) td (ks ++ [(k, a)]) (touched ++ [(k, l)]) := by
  have atd : a ≠ td := fun z => by rw [z, h.hd] at na; cases na
  have ln : ks.length = touched.length := by
    have := congrArg List.length h.ky
    rwa [List.length_map, List.length_map] at this
  refine ⟨fun b o e => ?_, upd_same, h.td0, by rw [List.map_append, List.map_append, h.ky]; rfl, fun j k' l' e => ?_, ?_⟩
  · have h1 := h.sm _ _ e
    rw [upd_ne (ne_of_none e h.td0), upd_ne (ne_of_none h1 na)]
    exact h1
  · rcases Nat.lt_or_ge j touched.length with q | q
    · rw [List.getElem?_append_left q] at e
      obtain ⟨x, e1, e2, e3, e4⟩ := h.at_ j k' l' e
      exact ⟨x, by rw [List.getElem?_append_left (by omega)]; exact e1, by rw [upd_ne e4, upd_ne (ne_of_none e2 na)]; exact e2, e3, e4⟩
    · have l2 := (List.getElem?_eq_some_iff.mp e).1
      rw [List.length_append, List.length_singleton] at l2
      have ej : j = touched.length := by omega
      rw [ej, List.getElem?_append_right (Nat.le_refl _), Nat.sub_self] at e
      cases e
      exact ⟨a, by rw [ej, ← ln, List.getElem?_append_right (Nat.le_refl _), Nat.sub_self]; rfl, by rw [upd_ne atd, upd_same], h.sm.free na, atd⟩
  · rw [List.map_append, List.nodup_append]
    refine ⟨h.nd, List.nodup_cons.mpr ⟨List.not_mem_nil, List.nodup_nil⟩, fun x hx y hy e => ?_⟩
    have hy : y = a := List.mem_singleton.mp hy
    obtain ⟨p, hp, e2⟩ := List.mem_map.mp hx
    obtain ⟨j, hj⟩ := List.mem_iff_getElem?.mp hp
    have lj := (List.getElem?_eq_some_iff.mp hj).1
    obtain ⟨z, e1, e3, _⟩ := h.at_ j _ _ (List.getElem?_eq_getElem (show j < touched.length by omega))
    rw [hj] at e1
    have : p.2 = z := congrArg Prod.snd (Option.some.inj e1)
    rw [← this, e2, e, hy, na] at e3
    cases e3
theorem TgI.more {H7 H' : Hp} {td a k j : Nat} {ks : List (Nat × Addr)} {touched : List (Nat × List Nat)} {l : List Nat} {s : Nat} (h : TgI H7 H' td ks touched) (hj : touched[j]? = some (k, l)) (ha : ks[j]? = some (k, a)) : TgI H7 (upd H' a (.lst ((l ++ [s]).map natV))) td ks (touched.set j (k, l ++ [s])) := by
  obtain ⟨a', e1, e2, e3, e4⟩ := h.at_ j k l hj
  have : a' = a := by
    rw [ha] at e1
    exact (congrArg Prod.snd (Option.some.inj e1)).symm
  subst this
  have lj := (List.getElem?_eq_some_iff.mp hj).1
  refine ⟨fun b o e => ?_, by rw [upd_ne e4.symm]; exact h.hd, h.td0, ?_, fun i k' l' e => ?_, h.nd⟩
  · rw [upd_ne (ne_of_none e e3)]
    exact h.sm _ _ e
  · rw [h.ky, List.map_set]
    refine List.ext_getElem? fun i => ?_
    rw [List.getElem?_set]
    split
    · rename_i q
      subst q
      rw [if_pos (by rw [List.length_map]; exact lj), List.getElem?_map, hj]
      rfl
    · rfl
  · rw [List.getElem?_set] at e
    by_cases q : j = i
    · subst q
      rw [if_pos rfl, if_pos lj] at e
      cases e
      exact ⟨a', ha, upd_same, e3, e4⟩
    · rw [if_neg q] at e
      obtain ⟨x, f1, f2, f3, f4⟩ := h.at_ i k' l' e
      have ne : x ≠ a' := fun z => q (by
        have l1 := (List.getElem?_eq_some_iff.mp ha).1
        refine (List.getElem?_inj (by rw [List.length_map]; exact l1) h.nd).mp (show (ks.map Prod.snd)[j]? = (ks.map Prod.snd)[i]? from ?_)
        rw [List.getElem?_map, List.getElem?_map, ha, f1, z]
        rfl)
      exact ⟨x, f1, by rw [upd_ne ne]; exact f2, f3, f4⟩
theorem src_nd {f : Nat → List Nat} : ∀ {held : List Nat}, held.Nodup → (∀ t ∈ held, (f t).Nodup) → (∀ t t' s, t ∈ held → t' ∈ held → s ∈ f t → s ∈ f t' → t = t') → (held.flatMap f).Nodup
  | [], _, _, _ => List.nodup_nil
  | t :: held, nd, h1, h2 => by
    obtain ⟨n1, n2⟩ := List.nodup_cons.mp nd
    rw [List.flatMap_cons, List.nodup_append]
    refine ⟨h1 t List.mem_cons_self, src_nd n2 (fun x hx => h1 x (List.mem_cons_of_mem t hx)) (fun x y s hx hy => h2 x y s (List.mem_cons_of_mem t hx) (List.mem_cons_of_mem t hy)), fun a ha b hb e => ?_⟩
    obtain ⟨x, hx, hbx⟩ := List.mem_flatMap.mp hb
    have := h2 t x a List.mem_cons_self (List.mem_cons_of_mem t hx) ha (e ▸ hbx)
    exact n1 (this ▸ hx)

section
variable {P : Program} {w : World} {K : PySem.W.Frag} {mg : Str → Option Value} {base : Heap}
theorem scRefine : FnScope ["before", "block", "members", "most", "sizes", "held", "waiting", "queue", "chosen", "state", "ways", "touched", "source", "old"] ["before", "block", "members", "most"] (defScope sRefine) := ⟨rfl, rfl, rfl, by decide +kernel, rfl, by decide +kernel, by decide +kernel⟩
def spRefine : Sp := fun vs H Q _ => ∃ (L : Nat) (rs : Rows) (es : List Bool) (bf blk mb : Addr) (ws : List Addr) (cs : List (List Addr)) (f : Nat → Nat → List Nat) (R : Nat → Prop) (T N : Nat) (block : List (Option Nat)) (mem : List (List Nat)) (ma : List Addr) (S : Nat → Prop), vs = [.ref bf, .ref blk, .ref mb, .int (N : Int)] ∧ GOk L rs ∧ BA H bf ws cs L rs.length f ∧
  (∀ c t, c < L → t < rs.length → (f c t).Nodup ∧ ∀ s, s ∈ f c t ↔ (R s ∧ nx rs s c = some t)) ∧ (∀ s, R s → s < rs.length) ∧ (∀ s c t, R s → nx rs s c = some t → R t) ∧ H blk = some (.lst (block.map oV)) ∧ H mb = some (.lst (ma.map V.ref)) ∧ MemAt H ma mem ∧ blk ≠ mb ∧ (∀ a, BAd bf ws cs a → a ≠ blk ∧ a ≠ mb) ∧ (∀ a ∈ ma, a ≠ blk ∧ a ≠ mb) ∧
  T ≤ rs.length ∧ TI rs es R T block mem (mem.map List.length) (List.replicate mem.length true) (List.range mem.length) 0 S L ∧
  (∀ block' mem' sizes' wait' queue' kk S', TI rs es R T block' mem' sizes' wait' queue' kk S' L → mem'.length ≤ N) ∧
  ∀ (H' : Hp) (block' : List (Option Nat)), Keep (fun b => b = blk ∨ b = mb) H H' → H' blk = some (.lst (block'.map oV)) → block'.length = rs.length → PB rs es L (bv block') → (∀ s, (∃ b, bv block' s = some b) ↔ (R s ∧ Live rs es s)) → Q .non H'
theorem ok_refine {f fMV fLK : Addr} {fd fdMV fdLK : FuncData} (F : Fun K "refine" "refine" sRefine f fd)
    (MV : FnOk P w K mg base CX0 1 fMV fdMV ["old", "moved", "block", "members", "sizes"] (spMove K)) (FMV : Fun K "move" "move" sMove fMV fdMV) (bMV : Binds K fdMV ["old", "moved", "block", "members", "sizes"] []) (gMV : mg "move" = some (.ref fMV))
    (LK : FnOk P w K mg base CX0 1 fLK fdLK ["old", "sizes", "waiting"] (spLook K)) (FLK : Fun K "look_again" "look_again" sLook fLK fdLK) (bLK : Binds K fdLK ["old", "sizes", "waiting"] []) (gLK : mg "look_again" = some (.ref fLK)) (T : Mg mg) : FnOk P w K mg base CX0 2 f fd ["before", "block", "members", "most"] spRefine := by
  refine F.ok scRefine (fun vs H Q E h => ?_) (fun cdv A outer s H vs Q E hr h => ?_)
  · obtain ⟨L, rs, es, bf, blk, mb, ws, cs, f, R, T, N, block, mem, ma, S, rfl, _⟩ := h
    rfl
  · obtain ⟨L, rs, es, bf, blk, mb, ws, cs, f, R, TT, N, block, mem, ma, S, rfl, M, BB, hf, rl, ron, hb, hm, mat, nbm, nBA, nma, TT4, ti, cap, k⟩ := h
    have hu1 := hu_of hr
    have l4 := M.lN
    refine ⟨_, (pss_cons (ps_setLc (i := 4) (own := [("held", 5)]) (g := gName 5) (tt := tYes) rfl scRefine.nd rfl rfl (sw_true rfl rfl rfl (by decide +kernel)) (pi_list (pv 2)) (blkOk_by (N := ["before", "block", "members", "most", "sizes", "held", "waiting", "queue", "chosen", "state", "ways", "touched", "source", "old"]) (sc := defScope sRefine) (by decide +kernel)) (fun _ _ _ _ _ => pg_name (i := 5) scRefine.nd rfl (Or.inl rfl)) (fun _ _ _ _ _ => pts_nil) (fun _ _ _ _ _ => (pe_callB (r := rLen K) call_len_seq (by rfl) T.len PySem.boot_len (pa_cons (pv 5) pa_nil))))
      (pss_cons (ps_set (i := 6) scRefine.nd rfl (.inl rfl) (pe_op op_rep (pe_lst (pa_cons pe_bl pa_nil)) (pe_callB (r := rLen K) call_len_seq (by rfl) T.len PySem.boot_len (pa_cons (pv 2) pa_nil))))
      (pss_cons (ps_set (i := 7) scRefine.nd rfl (.inl rfl) (pe_callTy (r := rListR) (call_listR rfl) (by rfl) T.list (by decide +kernel) (pa_cons (pe_callTy cr_range1 (by rfl) T.range (by decide +kernel) (pa_cons (pe_callB (r := rLen K) call_len_seq (by rfl) T.len PySem.boot_len (pa_cons (pv 2) pa_nil)) pa_nil)) pa_nil)))
      (pss_one (ps_while PassesOwn.never (pt_lstT (pv 7)) (pss_cons (ps_if (pt_cmpR op_gt (pe_callB (r := rLen K) call_len_seq (by rfl) T.len PySem.boot_len (pa_cons (pv 2) pa_nil)) (pv 3) (nomark _)) (pss_one ps_dead) pss_nil)
      (pss_cons (ps_set (i := 8) scRefine.nd rfl (.inr rfl) (pe_bm0 PySem.F.plainAttrs_list PySem.F.slot_list_pop PySem.F.type_list_pop mt_pop (pv 7)))
      (pss_cons (ps_asg pe_bl (pg_sub (pv 6) (pv 8) set_list))
      (pss_cons (ps_setLc (i := 5) (own := [("state", 9)]) (g := gName 9) rfl scRefine.nd rfl rfl (sw_true rfl rfl rfl (by decide +kernel)) (pi_list (pe_ix (r := rIxL K) ix_list (pv 2) (pv 8) (fun _ _ => rfl))) (blkOk_by (N := ["before", "block", "members", "most", "sizes", "held", "waiting", "queue", "chosen", "state", "ways", "touched", "source", "old"]) (sc := defScope sRefine) (by decide +kernel)) (fun _ _ _ _ _ => pg_name (i := 9) scRefine.nd rfl (Or.inl rfl)) (fun _ _ _ _ _ => pts_one (pt_cmpR op_eq (pe_ix (r := rIxL K) ix_list (pv 1) (pv 9) (fun _ _ => rfl)) (pv 8) (nomark _))) (fun _ _ _ _ _ => (pv 9)))
      (pss_cons (ps_asg (pv 5) (pg_sub (pv 2) (pv 8) set_list))
      (pss_one (ps_for PassesOwn.never rfl (pi_list (pv 0)) (pg_name (i := 10) scRefine.nd rfl (.inl rfl)) (pss_cons (ps_set (i := 11) scRefine.nd rfl (.inl rfl) pe_dnewK)
      (pss_cons (ps_for PassesOwn.never rfl (pi_list (pv 5)) (pg_name (i := 9) scRefine.nd rfl (.inl rfl)) (pss_one (ps_for PassesOwn.never rfl (pi_list (pe_ix (r := rIxL K) ix_list (pv 10) (pv 9) (fun _ _ => rfl))) (pg_name (i := 12) scRefine.nd rfl (.inl rfl)) (pss_one (ps_if (pt_cmp (pc_din hu1 (pe_ix (r := rIxL K) ix_list (pv 1) (pv 12) (fun _ _ => rfl)) (pv 11))) (pss_one (ps_expr (pe_bm PySem.F.plainAttrs_list PySem.F.slot_list_append PySem.F.type_list_append mt_append (pe_dget hu1 (pv 11) (pe_ix (r := rIxL K) ix_list (pv 1) (pv 12) (fun _ _ => rfl)) (fun _ _ => rfl)) (pa_cons (pv 12) pa_nil)))) (pss_one (ps_asg (pe_lst (pa_cons (pv 12) pa_nil)) (pg_sub (pv 11) (pe_ix (r := rIxL K) ix_list (pv 1) (pv 12) (fun _ _ => rfl)) (set_dict hu1)))))))))
      (pss_one (ps_lock (ps_for PassesOwn.never rfl (pi_keys (pv 11)) (pg_name (i := 13) scRefine.nd rfl (.inl rfl)) (pss_one (ps_if (pt_cmpR op_lt (pe_callB (r := rLen K) call_len_seq (by rfl) T.len PySem.boot_len (pa_cons (pe_dget hu1 (pv 11) (pv 13) (fun _ _ => rfl)) pa_nil)) (pe_ix (r := rIxL K) ix_list (pv 4) (pv 13) (fun _ _ => rfl)) (nomark _)) (pss_cons (ps_expr (pe_call MV (hr.mono (by decide)) (by rfl) gMV FMV.kp bMV .nil pass0 (pa_cons (pv 13) (pa_cons (pe_dget hu1 (pv 11) (pv 13) (fun _ _ => rfl)) (pa_cons (pv 1) (pa_cons (pv 2) (pa_cons (pv 4) pa_nil)))))))
      (pss_one (ps_expr (pe_bm PySem.F.plainAttrs_list PySem.F.slot_list_append PySem.F.type_list_append mt_append (pv 7) (pa_cons (pe_call LK (hr.mono (by decide)) (by rfl) gLK FLK.kp bLK .nil pass0 (pa_cons (pv 13) (pa_cons (pv 4) (pa_cons (pv 6) pa_nil)))) pa_nil))))) pss_nil))))))))))))))))))), ?_⟩
    have mT := ti.ri.many
    have mal := mat.ln
    have fin_ : ∀ (H' : Hp) (block' : List (Option Nat)) (mem' : List (List Nat)) (sizes' : List Nat) (wait' : List Bool) (kk : Int) (S' : Nat → Prop), Keep (fun b => b = blk ∨ b = mb) H H' → H' blk = some (.lst (block'.map oV)) → TI rs es R TT block' mem' sizes' wait' [] kk S' L → Q .non H' := fun H' block' mem' sizes' wait' kk S' kp hb' ti' => k H' block' kp hb' ti'.ri.lb (ti'.done M.row M.tgt rl ron) ti'.dom
    refine ⟨_, rfl, mb, rfl, ⟨_, SqL.of hm⟩, fun sz hD => ?_⟩
    refine lc_list (K := K) (a := mb) (xs := ma.map V.ref) (NInv natV (mem.map List.length) H sz) (nstart hD) (fun i H' _ q => SqL.of (q.1 _ _ hm)) ?_ ?_
    · rintro i x H1 hx p1
      rw [List.getElem?_map] at hx
      obtain ⟨a, ha, rfl⟩ := Option.map_eq_some_iff.mp hx
      have il := (List.getElem?_eq_some_iff.mp ha).1
      have hia : (mem.map List.length)[i]? = some (mem.getD i []).length := by
        rw [List.getElem?_map, List.getElem?_eq_getElem (by omega), getD_at (by omega)]
        rfl
      refine ⟨rfl, _, rfl, a, _, rfl, .inl (SqL.of (p1.1 _ _ (mat.at_ i a ha))), ?_⟩
      rw [List.length_map]
      exact nturn (f := natV) (small9 (by rw [List.length_map]; omega)) hD hia p1 (Same.refl _)
    · rintro H1 p1
      obtain ⟨s1, hs1⟩ := nend (by rw [List.length_map, List.length_map, mal]) p1
      refine ⟨by show 1 ≤ sizeLine; decide, fun t ht => ?_⟩
      have s2 := same_new (o := .lst [.bl true]) ht
      refine ⟨_, rfl, mb, _, rfl, .inl (SqL.of (s2 _ _ (s1 _ _ hm))), t, ((ma.map V.ref).length : Int), [V.bl true], rfl, rfl, upd_same, by omega, by rw [List.length_map]; omega, sz_big (by rw [List.length_singleton, List.length_map]; omega), fun wt hwt => ?_⟩
      have ew : (List.replicate ((ma.map V.ref).length : Int).toNat [V.bl true]).flatten = (List.replicate mem.length true).map V.bl := by
        rw [Int.toNat_natCast, List.length_map, mal, List.map_replicate, List.flatten_replicate_singleton]
      rw [ew]
      have s3 := same_new (o := .lst ((List.replicate mem.length true).map V.bl)) hwt
      have hw3 : (upd (upd H1 t (.lst [.bl true])) wt (.lst ((List.replicate mem.length true).map V.bl))) wt = some (.lst ((List.replicate mem.length true).map V.bl)) := upd_same
      have s13 := s1.trans (s2.trans s3)
      have hs3 := (s2.trans s3) _ _ hs1
      have nws : wt ≠ sz := fun z => by rw [z, s2 _ _ hs1] at hwt; cases hwt
      have wt0 : H wt = none := (s1.trans s2).free hwt
      generalize upd (upd H1 t (.lst [.bl true])) wt (.lst ((List.replicate mem.length true).map V.bl)) = G3 at *
      refine ⟨_, rfl, mb, _, rfl, .inl (SqL.of (s13 _ _ hm)), _, rfl, fun p hp => ?_⟩
      have s4 := same_new (o := .rng 0 ((ma.map V.ref).length : Int)) hp
      refine ⟨p, mem.length, rfl, by rw [upd_same, List.length_map, mal], by omega, fun qu H5 s5 hq0 hq5 => ?_⟩
      have s45 := s4.trans s5
      have hs5 := s45 _ _ hs3
      have hw5 := s45 _ _ hw3
      have s15 := s13.trans s45
      have nqs : qu ≠ sz := fun z => by rw [z, s4 _ _ hs3] at hq0; cases hq0
      have nqw : qu ≠ wt := fun z => by rw [z, s4 _ _ hw3] at hq0; cases hq0
      have qu0 : H qu = none := (s13.trans s4).free hq0
      have ne0 : ∀ {a b : Addr} {o : HO}, H a = none → H b = some o → a ≠ b := fun h1 h2 z => by rw [z, h2] at h1; cases h1
      have RF0 : RfI H H5 blk mb sz wt qu block mem (mem.map List.length) (List.replicate mem.length true) (List.range mem.length) ma := ⟨Keep.same s15, s15 _ _ hb, s15 _ _ hm, mat.keep (W := fun _ => False) (Keep.same s15) (fun _ _ z => z), hs5, hw5, hq5, fun a ha => by
          obtain ⟨b, hb'⟩ := List.mem_iff_getElem?.mp ha
          have e := mat.at_ b a hb'
          exact ⟨(nma a ha).1, (nma a ha).2, (ne0 hD e).symm, (ne0 wt0 e).symm, (ne0 qu0 e).symm⟩, ⟨nbm, ne0 hD hb, ne0 hD hm, ne0 wt0 hb, ne0 wt0 hm, nws, ne0 qu0 hb, ne0 qu0 hm, nqs, nqw⟩, ⟨hD, wt0, qu0⟩⟩
      have tq := ti.ql
      refine while_by (fun σ H' => ∃ (block : List (Option Nat)) (mem : List (List Nat)) (sizes : List Nat) (wait : List Bool) (queue : List Nat) (ma : List Addr) (kk : Int) (S : Nat → Prop) (y5 y8 y9 y10 y11 y12 y13 : Option V), σ = [some (.ref bf), some (.ref blk), some (.ref mb), some (.int (N : Int)), some (.ref sz), y5, some (.ref wt), some (.ref qu), y8, y9, y10, y11, y12, y13] ∧ RfI H H' blk mb sz wt qu block mem sizes wait queue ma ∧ TI rs es R TT block mem sizes wait queue kk S L)
        (fun (_ : List (Option V)) (H' : Hp) => match H' qu, H' mb with
          | some (.lst xs), some (.lst ys) => xs.length + (TT - ys.length)
          | _, _ => 0) ⟨block, mem, _, _, _, ma, _, _, _, _, _, _, _, _, _, rfl, RF0, ti⟩ ?_ ?_
      · rintro σ H6 ⟨block, mem, sizes, wait, queue, ma, kk, S, y5, y8, y9, y10, y11, y12, y13, rfl, rf, ti⟩
        refine ⟨_, rfl, qu, _, rfl, SqL.of rf.hq, ?_⟩
        cases queue with
        | nil => exact fin_ H6 block mem sizes wait kk S rf.kp rf.hb ti
        | cons q0 Q0 =>
          have hne : (q0 :: Q0) ≠ [] := List.cons_ne_nil _ _
          generalize q0 :: Q0 = queue at *
          obtain ⟨Q', u, eQ⟩ : ∃ Q' u, queue = Q' ++ [u] := ⟨queue.dropLast, queue.getLast hne, (List.dropLast_concat_getLast hne).symm⟩
          subst eQ
          have mT := ti.ri.many
          have cp := cap _ _ _ _ _ _ _ ti
          have wl := ti.wl
          have mal := rf.mat.ln
          have um : u < mem.length := by
            have := wv_lt ((ti.qw u).mp (List.mem_append.mpr (.inr List.mem_cons_self)))
            omega
          have hx0 : (!((Q' ++ [u]).map natV).isEmpty) = true := by
            rw [List.map_append]
            cases Q'.map natV <;> rfl
          rw [if_pos hx0]
          have μ0 : (match H6 qu, H6 mb with
          | some (.lst xs), some (.lst ys) => xs.length + (TT - ys.length)
          | _, _ => 0) = Q'.length + 1 + (TT - mem.length) := by
            rw [rf.hq, rf.hm]
            show ((Q' ++ [u]).map natV).length + (TT - (ma.map V.ref).length) = _
            rw [List.length_map, List.length_append, List.length_map, mal]
            rfl
          rw [μ0]
          refine ⟨_, rfl, mb, _, rfl, .inl (SqL.of rf.hm), _, rfl, _, _, rfl, rfl, _, rfl, ite2 (fun h => ?_) (fun _ => ?_)⟩
          · have h := of_decide_eq_true h
            rw [List.length_map] at h
            omega
          have em : (Q' ++ [u]).map natV = Q'.map natV ++ [V.int (u : Int)] := by
            rw [List.map_append]
            rfl
          refine ⟨_, rfl, .inl ⟨rfl, _, SqL.of rf.hq⟩, qu, _, V.int (u : Int), rfl, rfl, rf.hq, by rw [em]; simp, ?_⟩
          rw [show ((Q' ++ [u]).map natV).dropLast = Q'.map natV by rw [em, List.dropLast_concat]]
          have tk := ti.take M.row um
          obtain ⟨d1, d2, d3, d4, d5, d6, d7, d8, d9, d10⟩ := rf.ds
          have w1 : (upd H6 qu (.lst (Q'.map natV))) wt = some (.lst (wait.map V.bl)) := by rw [upd_ne d10.symm]; exact rf.hw
          refine ⟨_, rfl, _, rfl, wt, _, (u : Int), u, rfl, rfl, w1, Evl.ixN_nat (by rw [List.length_map, wl]; exact um), ?_⟩
          have ews : (wait.map V.bl).set u (V.bl false) = (wait.set u false).map V.bl := by rw [List.map_set]
          rw [ews]
          have rf2 : RfI H (upd (upd H6 qu (.lst (Q'.map natV))) wt (.lst ((wait.set u false).map V.bl))) blk mb sz wt qu block mem sizes (wait.set u false) Q' ma := by
            have up : ∀ {z : Addr} {o : HO}, z ≠ qu → z ≠ wt → H6 z = some o → (upd (upd H6 qu (.lst (Q'.map natV))) wt (.lst ((wait.set u false).map V.bl))) z = some o := fun h1 h2 e => by rw [upd_ne h2, upd_ne h1]; exact e
            refine ⟨fun b o nb e => up (fun z => by rw [z, rf.new.2.2] at e; cases e) (fun z => by rw [z, rf.new.2.1] at e; cases e) (rf.kp b o nb e), up d7.symm d4.symm rf.hb, up d8.symm d5.symm rf.hm, ⟨mal, fun b a e => ?_⟩, up d9.symm d6.symm rf.hs, upd_same, by rw [upd_ne d10, upd_same], rf.fm, rf.ds, rf.new⟩
            obtain ⟨f1, f2, f3, f4, f5⟩ := rf.fm a (List.mem_of_getElem? e)
            exact up f5 f4 (rf.mat.at_ b a e)
          clear rf w1
          generalize upd (upd H6 qu (.lst (Q'.map natV))) wt (.lst ((wait.set u false).map V.bl)) = G2 at *
          -- those of the lot that are in it still
          obtain ⟨a0, ha0⟩ : ∃ a0, ma[u]? = some a0 := ⟨_, List.getElem?_eq_getElem (by rw [mal]; exact um)⟩
          have hl0 := rf2.mat.at_ u a0 ha0
          refine ⟨_, rfl, _, rfl, mb, _, (u : Int), V.ref a0, rfl, rfl, SqL.of rf2.hm, atI_nat (v := V.ref a0) (by rw [List.getElem?_map, ha0]; rfl), a0, rfl, ⟨_, SqL.of hl0⟩, fun hl_ hD => ?_⟩
          have lin := ti.ri.inn u
          have lnd := nodup_len (ti.ri.nd u) lin
          refine lc_list (K := K) (a := a0) (xs := (mem.getD u []).map natV) (KInv (isB block u) natV (mem.getD u []) G2 hl_) (kstart hD) (fun i H' _ q => SqL.of (q.1 _ _ hl0)) ?_ ?_
          · rintro i x H3 hx p1
            obtain ⟨v, hv, rfl⟩ := natV_of hx
            have vn := lin v (List.mem_of_getElem? hv)
            have hbt := oV_at (block := block) (t := v) (by rw [ti.ri.lb]; exact vn)
            refine ⟨rfl, _, rfl, _, rfl, blk, _, (v : Int), _, rfl, rfl, SqL.of (p1.1 _ _ rf2.hb), atI_nat hbt, _, rfl, ?_⟩
            have ml1000 : (mem.getD u []).length < sizeLine := small9 (by omega)
            cases hbv : bv block v with
            | none =>
              have hno : isB block u v = false := by
                unfold isB
                rw [hbv]
                rfl
              exact ⟨rfl, _, rfl, ite2 (fun h => absurd (of_decide_eq_true h) (fun z => by cases z)) (fun _ => kno (t := isB block u) hv hno p1 (Same.refl _))⟩
            | some b =>
              refine ⟨rfl, _, rfl, ite2 (fun h => ?_) (fun h => ?_)⟩
              · have e : (b : Int) = (u : Int) := V.int.inj (of_decide_eq_true h)
                have e : b = u := by omega
                have hyes : isB block u v = true := decide_eq_true (by rw [hbv, e])
                exact ⟨_, rfl, kyes (t := isB block u) ml1000 hD hv hyes p1 (Same.refl _)⟩
              · have hno : isB block u v = false := decide_eq_false fun z => by
                  rw [hbv] at z
                  rw [Option.some.inj z] at h
                  exact h (decide_eq_true rfl)
                exact kno (t := isB block u) hv hno p1 (Same.refl _)
          · rintro H3 p1
            obtain ⟨s3, hl3⟩ := kend (List.length_map _) p1
            have hm3 := s3 _ _ rf2.hm
            refine ⟨_, rfl, _, rfl, _, rfl, mb, _, (u : Int), u, rfl, rfl, hm3, Evl.ixN_nat (by rw [List.length_map, mal]; exact um), ?_⟩
            have ems : (ma.map V.ref).set u (V.ref hl_) = (ma.set u hl_).map V.ref := by rw [List.map_set]
            rw [ems]
            have hn0 : ∀ {z : Addr} {o : HO}, G2 z = some o → hl_ ≠ z := fun e q => by rw [q, e] at hD; cases hD
            have rf3 : RfI H (upd H3 mb (.lst ((ma.set u hl_).map V.ref))) blk mb sz wt qu block (mem.set u ((mem.getD u []).filter (isB block u))) sizes (wait.set u false) Q' (ma.set u hl_) := by
              have up : ∀ {z : Addr} {o : HO}, z ≠ mb → H3 z = some o → (upd H3 mb (.lst ((ma.set u hl_).map V.ref))) z = some o := fun h1 e => by rw [upd_ne h1]; exact e
              refine ⟨fun b o nb e => up (fun z => nb (.inr z)) (s3 _ _ (rf2.kp b o nb e)), up d1 (s3 _ _ rf2.hb), upd_same, ⟨by rw [List.length_set, List.length_set]; exact mal, fun b a e => ?_⟩, up d3 (s3 _ _ rf2.hs), up d5 (s3 _ _ rf2.hw), up d8 (s3 _ _ rf2.hq), fun a ha => ?_, rf2.ds, rf2.new⟩
              · rw [List.getElem?_set] at e
                by_cases z : u = b
                · subst z
                  rw [if_pos rfl, if_pos (by rw [mal]; exact um)] at e
                  cases e
                  rw [List.getD_eq_getElem?_getD, List.getElem?_set_self um]
                  exact up (hn0 rf2.hm) hl3
                · rw [if_neg z] at e
                  rw [List.getD_eq_getElem?_getD, List.getElem?_set_ne z, ← List.getD_eq_getElem?_getD]
                  exact up (rf2.fm a (List.mem_of_getElem? e)).2.1 (s3 _ _ (rf2.mat.at_ b a e))
              · rcases List.mem_or_eq_of_mem_set ha with q | q
                · exact rf2.fm a q
                · rw [q]
                  exact ⟨hn0 rf2.hb, hn0 rf2.hm, hn0 rf2.hs, hn0 rf2.hw, hn0 rf2.hq⟩
            have hh : (upd H3 mb (.lst ((ma.set u hl_).map V.ref))) hl_ = some (.lst (((mem.getD u []).filter (isB block u)).map natV)) := by
              rw [upd_ne (hn0 rf2.hm)]
              exact hl3
            generalize upd H3 mb (.lst ((ma.set u hl_).map V.ref)) = G3 at *
            have hd5 : hl_ ≠ blk ∧ hl_ ≠ mb ∧ hl_ ≠ sz ∧ hl_ ≠ wt ∧ hl_ ≠ qu := ⟨hn0 rf2.hb, hn0 rf2.hm, hn0 rf2.hs, hn0 rf2.hw, hn0 rf2.hq⟩
            have hdm : ∀ s, s ∈ (mem.getD u []).filter (isB block u) ↔ bv block s = some u := fun s => by
              rw [List.mem_filter]
              exact ⟨fun q => of_decide_eq_true q.2, fun q => ⟨ti.ri.sub s u q, decide_eq_true q⟩⟩
            have hdn : ((mem.getD u []).filter (isB block u)).Nodup := (ti.ri.nd u).filter _
            have so0 := ti.so
            have dom0 := ti.dom
            generalize (mem.getD u []).filter (isB block u) = held at *
            have BBk : ∀ {H' : Hp}, Keep (fun b => b = blk ∨ b = mb) H H' → BA H' bf ws cs L rs.length f := fun kp => BB.keep kp fun a ha z => by
              rcases z with z | z
              · exact (nBA a ha).1 z
              · exact (nBA a ha).2 z
            refine ⟨_, rfl, bf, rfl, ⟨_, SqL.of (BBk rf3.kp).top⟩, ?_⟩
            refine for_list (K := K) (a := bf) (xs := ws.map V.ref) (fun c σ H' => ∃ (block1 : List (Option Nat)) (mem1 : List (List Nat)) (sizes1 : List Nat) (wait1 : List Bool) (queue1 : List Nat) (ma1 : List Addr) (y9 y10 y11 y12 y13 : Option V), σ = [some (.ref bf), some (.ref blk), some (.ref mb), some (.int (N : Int)), some (.ref sz), some (.ref hl_), some (.ref wt), some (.ref qu), some (.int (u : Int)), y9, y10, y11, y12, y13] ∧ RfI H H' blk mb sz wt qu block1 mem1 sizes1 wait1 queue1 ma1 ∧ TI rs es R TT block1 mem1 sizes1 wait1 queue1 (kk - 1) (fun s => bv block s = some u) c ∧ H' hl_ = some (.lst (held.map natV)))
              ⟨block, _, sizes, _, Q', _, _, _, _, _, _, rfl, rf3, tk, hh⟩ (fun c σ H' _ p => by
                obtain ⟨_, _, _, _, _, _, _, _, _, _, _, _, rf, _⟩ := p
                exact SqL.of (BBk rf.kp).top) ?_ ?_
            · rintro c x σ H7 hx ⟨block1, mem1, sizes1, wait1, queue1, ma1, y9, y10, y11, y12, y13, rfl, rf7, ti7, hh7⟩
              rw [List.getElem?_map] at hx
              obtain ⟨w0, hw0, rfl⟩ := Option.map_eq_some_iff.mp hx
              have cL : c < L := by
                have := (List.getElem?_eq_some_iff.mp hw0).1
                rw [BB.wl] at this
                exact this
              have B7 := BBk rf7.kp
              obtain ⟨cc, hcc⟩ : ∃ cc, cs[c]? = some cc := ⟨_, List.getElem?_eq_getElem (by rw [BB.cl]; exact cL)⟩
              obtain ⟨g1, g2⟩ := B7.mid c w0 cc hw0 hcc
              have hdL : ∀ t ∈ held, t < rs.length ∧ R t ∧ Live rs es t := fun t ht => by
                have := (dom0 t).mp ⟨u, (hdm t).mp ht⟩
                exact ⟨rl t this.1, this⟩
              have snd : (held.flatMap (f c)).Nodup := src_nd hdn (fun t ht => (hf c t cL (hdL t ht).1).1) (fun t t' s ht ht' h1 h2 => by
                have e1 := (((hf c t cL (hdL t ht).1).2 s).mp h1).2
                have e2 := (((hf c t' cL (hdL t' ht').1).2 s).mp h2).2
                rw [e1] at e2
                exact Option.some.inj e2)
              have slt : ∀ s ∈ held.flatMap (f c), s < rs.length ∧ ∃ k, bv block1 s = some k := fun s hs => by
                obtain ⟨t, ht, hst⟩ := List.mem_flatMap.mp hs
                obtain ⟨a1, a2, a3⟩ := hdL t ht
                obtain ⟨b1, b2⟩ := ((hf c t cL a1).2 s).mp hst
                exact ⟨rl s b1, (ti7.dom s).mpr ⟨b1, live_on b2 a3⟩⟩
              have slen : (held.flatMap (f c)).length ≤ rs.length := nodup_len snd fun s hs => (slt s hs).1
              intro td htd
              have tg0 : TgI H7 (upd H7 td (.dK [])) td [] [] := ⟨same_new htd, upd_same, htd, rfl, (fun j k l e => by cases e), List.nodup_nil⟩
              generalize upd H7 td (.dK []) = G7 at *
              refine ⟨_, rfl, hl_, rfl, ⟨_, SqL.of (tg0.sm _ _ hh7)⟩, ?_⟩
              refine for_list (K := K) (a := hl_) (xs := held.map natV) (fun i σ H' => ∃ (ks : List (Nat × Addr)) (touched : List (Nat × List Nat)) (y9 y12 : Option V), σ = [some (.ref bf), some (.ref blk), some (.ref mb), some (.int (N : Int)), some (.ref sz), some (.ref hl_), some (.ref wt), some (.ref qu), some (.int (u : Int)), y9, some (.ref w0), some (.ref td), y12, y13] ∧ TgI H7 H' td ks touched ∧ TG (bv block1) touched ((held.take i).flatMap (f c)))
                ⟨[], [], _, _, rfl, tg0, tg_start⟩ (fun i σ H' _ p => by
                  obtain ⟨_, _, _, _, _, tg, _⟩ := p
                  exact SqL.of (tg.sm _ _ hh7)) ?_ ?_
              · rintro i x σ H8 hx ⟨ks, touched, y9', y12', rfl, tg8, TG8⟩
                obtain ⟨t, ht, rfl⟩ := natV_of hx
                have htm := List.mem_of_getElem? ht
                obtain ⟨tn, tR, tl⟩ := hdL t htm
                have tki : held.take (i + 1) = held.take i ++ [t] := by rw [List.take_add_one, ht]; rfl
                have fme : (held.take (i + 1)).flatMap (f c) = (held.take i).flatMap (f c) ++ f c t := by rw [tki]; simp
                have inall : ∀ s ∈ f c t, s ∈ held.flatMap (f c) := fun s hs => List.mem_flatMap.mpr ⟨t, htm, hs⟩
                have B8 := B7.same tg8.sm
                obtain ⟨g1', _⟩ := B8.mid c w0 cc hw0 hcc
                obtain ⟨a, hca⟩ : ∃ a, cc[t]? = some a := ⟨_, List.getElem?_eq_getElem (by rw [g2]; exact tn)⟩
                have g3 := B7.low c t cc a hcc hca
                refine ⟨_, rfl, _, rfl, w0, _, (t : Int), V.ref a, rfl, rfl, SqL.of g1', atI_nat (v := V.ref a) (by rw [List.getElem?_map, hca]; rfl), a, rfl, ⟨_, SqL.of (tg8.sm _ _ g3)⟩, ?_⟩
                refine for_list (K := K) (a := a) (xs := (f c t).map natV) (fun j σ H' => ∃ (ks : List (Nat × Addr)) (touched : List (Nat × List Nat)) (y12 : Option V), σ = [some (.ref bf), some (.ref blk), some (.ref mb), some (.int (N : Int)), some (.ref sz), some (.ref hl_), some (.ref wt), some (.ref qu), some (.int (u : Int)), some (.int (t : Int)), some (.ref w0), some (.ref td), y12, y13] ∧ TgI H7 H' td ks touched ∧ TG (bv block1) touched ((held.take i).flatMap (f c) ++ (f c t).take j))
                  ⟨ks, touched, _, rfl, tg8, by rw [List.take_zero, List.append_nil]; exact TG8⟩ (fun j σ H' _ p => by
                    obtain ⟨_, _, _, _, tg, _⟩ := p
                    exact SqL.of (tg.sm _ _ g3)) ?_ ?_
                · rintro j x σ H9 hx ⟨ks, touched, y12'', rfl, tg9, TG9⟩
                  obtain ⟨v, hv, rfl⟩ := natV_of hx
                  obtain ⟨vn, k1, hk1⟩ := slt v (inall v (List.mem_of_getElem? hv))
                  have tkj : (held.take i).flatMap (f c) ++ (f c t).take (j + 1) = ((held.take i).flatMap (f c) ++ (f c t).take j) ++ [v] := by
                    rw [List.take_add_one, hv, List.append_assoc]
                    rfl
                  have hbt : (block1.map oV)[v]? = some (.int (k1 : Int)) := by
                    rw [oV_at (by rw [ti7.ri.lb]; exact vn), hk1]
                    rfl
                  have hb9 := tg9.sm _ _ rf7.hb
                  have dg : DGet H9 td (.int (k1 : Int)) (valV (tKv ks) (.inl (k1 : Int))) := DGet.k (k := .inl (k1 : Int)) tg9.hd
                  refine ⟨_, rfl, _, rfl, blk, _, (v : Int), _, rfl, rfl, SqL.of hb9, atI_nat hbt, _, rfl, td, _, rfl, dg, _, rfl, ?_⟩
                  by_cases hin : k1 ∈ ks.map Prod.fst
                  · obtain ⟨j1, hj1⟩ := List.mem_iff_getElem?.mp (show k1 ∈ touched.map Prod.fst by rw [← tg9.ky]; exact hin)
                    rw [List.getElem?_map] at hj1
                    obtain ⟨⟨k', l1⟩, hj2, e⟩ := Option.map_eq_some_iff.mp hj1
                    have e : k' = k1 := e
                    subst e
                    obtain ⟨a1, b1, b2, b3, b4⟩ := tg9.at_ j1 k' l1 hj2
                    have nv := tKv_at (by rw [tg9.ky]; exact TG9.nd) b1
                    rw [nv] at dg ⊢
                    have ll : l1.length ≤ 1000000 := by
                      have e1 := (TG9.els k' l1 (List.mem_of_getElem? hj2)).1
                      have h1 : ((held.take i).flatMap (f c) ++ (f c t).take j).length ≤ (held.flatMap (f c)).length := by
                        have e2 : held.flatMap (f c) = (held.take i).flatMap (f c) ++ ((f c t) ++ (held.drop (i + 1)).flatMap (f c)) := by
                          rw [← List.append_assoc, ← fme, ← List.flatMap_append, List.take_append_drop]
                        rw [e2, List.length_append, List.length_append, List.length_append, List.length_take]
                        omega
                      have h2 : l1.length ≤ ((held.take i).flatMap (f c) ++ (f c t).take j).length := by
                        rw [e1]
                        exact List.length_filter_le _ _
                      omega
                    refine ⟨_, rfl, _, rfl, _, rfl, blk, _, (v : Int), _, rfl, rfl, SqL.of hb9, atI_nat hbt, td, V.ref a1, rfl, dg, .inl ⟨rfl, _, SqL.of b2⟩, _, rfl, a1, _, _, rfl, rfl, b2, small9 (by rw [List.length_map]; exact ll), ?_⟩
                    have em1 : l1.map natV ++ [V.int (v : Int)] = (l1 ++ [v]).map natV := by
                      rw [List.map_append]
                      rfl
                    rw [em1]
                    exact ⟨ks, _, _, rfl, tg9.more hj2 b1, by rw [tkj]; exact TG9.more hk1 hj2⟩
                  · rw [(tKv_no hin).2]
                    refine ⟨_, rfl, by show 1 ≤ sizeLine; decide, fun a1 na1 => ?_⟩
                    have sa := same_new (o := .lst [.int (v : Int)]) na1
                    have hd10 := sa _ _ tg9.hd
                    have kl : ks.length ≤ 1000000 := by
                      have h1 := nodup_len (n := mem1.length) TG9.nd fun k hk => by
                        obtain ⟨⟨k', l'⟩, hp, e⟩ := List.mem_map.mp hk
                        obtain ⟨e1, ne⟩ := TG9.els k' l' hp
                        obtain ⟨s0, hs0⟩ := List.exists_mem_of_ne_nil _ ne
                        rw [e1] at hs0
                        have e : k' = k := e
                        rw [← e]
                        exact ti7.ri.lt s0 k' (of_decide_eq_true (List.mem_filter.mp hs0).2)
                      have h2 := ti7.ri.many
                      have h3 := congrArg List.length tg9.ky
                      rw [List.length_map, List.length_map] at h3
                      rw [List.length_map] at h1
                      omega
                    have dp := DPut.k (k := .inl (k1 : Int)) (v := V.ref a1) hd10 (small9 (by unfold tKv; rw [List.length_map]; exact kl))
                    rw [tKv_put hin] at dp
                    refine ⟨_, rfl, _, rfl, _, rfl, blk, _, (v : Int), _, rfl, rfl, SqL.of (sa _ _ hb9), atI_nat hbt, td, _, rfl, dp, ?_⟩
                    exact ⟨_, _, _, rfl, tg9.fresh (l := [v]) na1, by rw [tkj]; exact TG9.fresh hk1 (by rw [← tg9.ky]; exact hin)⟩
                · rintro σ H9 ⟨ks, touched, y12'', rfl, tg9, TG9⟩
                  rw [List.length_map, List.take_length, ← fme] at TG9
                  exact ⟨ks, touched, _, _, rfl, tg9, TG9⟩
              · rintro σ H8 ⟨ks, touched, y9', y12', rfl, tg8, TG8⟩
                rw [List.length_map, List.take_length] at TG8
                have rf8 := rf7.same tg8.sm
                have hh8 := tg8.sm _ _ hh7
                have H0of : ∀ {z : Addr}, H7 z = none → H z = none := fun {z} e => by
                  cases q : H z with
                  | none => rfl
                  | some o =>
                    by_cases nb : z = blk ∨ z = mb
                    · rcases nb with nb | nb
                      · rw [nb, rf7.hb] at e
                        cases e
                      · rw [nb, rf7.hm] at e
                        cases e
                    · rw [rf7.kp z o nb q] at e
                      cases e
                have offs : ∀ {z : Addr}, H7 z = none → (z ≠ blk ∧ z ≠ mb ∧ z ≠ sz ∧ z ≠ wt ∧ z ≠ qu) ∧ z ∉ ma1 ∧ z ≠ hl_ := fun {z} e => by
                  have ne : ∀ {y : Addr} {o : HO}, H7 y = some o → z ≠ y := fun h1 h2 => by rw [h2, h1] at e; cases e
                  refine ⟨⟨ne rf7.hb, ne rf7.hm, ne rf7.hs, ne rf7.hw, ne rf7.hq⟩, fun q => ?_, ne hh7⟩
                  obtain ⟨b, hb'⟩ := List.mem_iff_getElem?.mp q
                  exact ne (rf7.mat.at_ b z hb') rfl
                obtain ⟨td5, tdm, tdh⟩ := offs tg8.td0
                refine ⟨td, .dK (tKv ks), tg8.hd, trivial, fun od => ?_⟩
                have rf9 := rf8.off (p := td) (o := .frz od (.dK (tKv ks))) (H0of tg8.td0) td5 tdm
                have gd : (upd H8 td (.frz od (.dK (tKv ks)))) td = some (.frz od (.dK (tKv ks))) := upd_same
                have hh9 : (upd H8 td (.frz od (.dK (tKv ks)))) hl_ = some (.lst (held.map natV)) := by rw [upd_ne tdh.symm]; exact hh8
                have lists9 : ∀ (j k : Nat) (l : List Nat), touched[j]? = some (k, l) → ∃ a, ks[j]? = some (k, a) ∧ (upd H8 td (.frz od (.dK (tKv ks)))) a = some (.lst (l.map natV)) ∧ H7 a = none ∧ a ≠ td := fun j k l e => by
                  obtain ⟨a, e1, e2, e3, e4⟩ := tg8.at_ j k l e
                  exact ⟨a, e1, by rw [upd_ne e4]; exact e2, e3, e4⟩
                generalize upd H8 td (.frz od (.dK (tKv ks))) = G9 at *
                refine ⟨_, rfl, td, od, rfl, .inl ⟨tKv ks, gd, ?_⟩⟩
                have lnk : (tKv ks).length = touched.length := by
                  have := congrArg List.length tg8.ky
                  rw [List.length_map, List.length_map] at this
                  unfold tKv
                  rw [List.length_map]
                  exact this
                refine for_it (walk_keys (d := td) (o := od) (kvs := tKv ks)) (fun i σ H' => H' td = some (.frz od (.dK (tKv ks))) ∧ (∀ (j k : Nat) (l : List Nat), touched[j]? = some (k, l) → ∃ a, ks[j]? = some (k, a) ∧ H' a = some (.lst (l.map natV)) ∧ H7 a = none ∧ a ≠ td) ∧ H' hl_ = some (.lst (held.map natV)) ∧ ∃ (block2 : List (Option Nat)) (mem2 : List (List Nat)) (sizes2 : List Nat) (wait2 : List Bool) (queue2 : List Nat) (ma2 : List Addr) (z9 z12 z13 : Option V), σ = [some (.ref bf), some (.ref blk), some (.ref mb), some (.int (N : Int)), some (.ref sz), some (.ref hl_), some (.ref wt), some (.ref qu), some (.int (u : Int)), z9, some (.ref w0), some (.ref td), z12, z13] ∧ RfI H H' blk mb sz wt qu block2 mem2 sizes2 wait2 queue2 ma2 ∧ TI rs es R TT block2 mem2 sizes2 wait2 queue2 (kk - 1) (fun s => bv block s = some u) c ∧ MI (bv block1) touched (held.flatMap (f c)) i (bv block2))
                  ⟨gd, lists9, hh9, block1, mem1, sizes1, wait1, queue1, ma1, _, _, _, rfl, rf9, ti7, mi_start TG8 (fun s hs => (slt s hs).2)⟩ (fun i σ H' _ p => p.1) ?_ ?_
                · rintro i x σ H9' H10 hi ⟨gd, lists, hh10, block2, mem2, sizes2, wait2, queue2, ma2, z9, z12, z13, rfl, rf, ti2, mi⟩ ⟨rfl, key, vv, hkv, rfl⟩
                  unfold tKv at hkv
                  rw [List.getElem?_map] at hkv
                  obtain ⟨⟨k1, a1⟩, hk1, e⟩ := Option.map_eq_some_iff.mp hkv
                  cases e
                  obtain ⟨l1, hl1⟩ : ∃ l1, touched[i]? = some (k1, l1) := by
                    have h1 : (touched.map Prod.fst)[i]? = some k1 := by
                      rw [← tg8.ky, List.getElem?_map, hk1]
                      rfl
                    rw [List.getElem?_map] at h1
                    obtain ⟨⟨k', l'⟩, e1, e2⟩ := Option.map_eq_some_iff.mp h1
                    have e2 : k' = k1 := e2
                    exact ⟨l', by rw [e1, e2]⟩
                  obtain ⟨a1', e1, ha1, a10, a1td⟩ := lists i k1 l1 hl1
                  have : a1' = a1 := by
                    rw [hk1] at e1
                    exact (congrArg Prod.snd (Option.some.inj e1)).symm
                  subst this
                  have keyb : ∀ (j k : Nat) (l' : List Nat), i ≤ j → touched[j]? = some (k, l') → k < mem2.length := fun j k l' ij e => by
                    obtain ⟨e1, ne⟩ := TG8.els k l' (List.mem_of_getElem? e)
                    obtain ⟨s0, hs0⟩ := List.exists_mem_of_ne_nil _ ne
                    rw [e1] at hs0
                    exact ti2.ri.lt s0 k ((mi.rest j k l' ij e s0).mp (of_decide_eq_true (List.mem_filter.mp hs0).2))
                  have km := keyb i k1 l1 (Nat.le_refl _) hl1
                  obtain ⟨el1, nel⟩ := TG8.els k1 l1 (List.mem_of_getElem? hl1)
                  have rst := mi.rest i k1 l1 (Nat.le_refl _) hl1
                  have inl : ∀ s, s ∈ l1 ↔ (s ∈ held.flatMap (f c) ∧ bv block2 s = some k1) := fun s => by
                    rw [el1, List.mem_filter, decide_eq_true_eq, rst s]
                  have hl : ∀ s ∈ l1, bv block2 s = some k1 := fun s hs => ((inl s).mp hs).2
                  have ndl : l1.Nodup := by
                    rw [el1]
                    exact snd.filter _
                  have szk := ti2.ri.szs k1 km
                  have ms2 := ti2.ri.ms
                  have mal2 := rf.mat.ln
                  have m2 := ti2.ri.many
                  have wl2 := ti2.wl
                  have q2 := ti2.ql
                  have dg : DGet H10 td (.int (k1 : Int)) (some (.ref a1')) := .inl ⟨tKv ks, .inl k1, .inr ⟨od, gd⟩, rfl, (tKv_at (by rw [tg8.ky]; exact TG8.nd) hk1).symm⟩
                  obtain ⟨a5, am1, ahl⟩ := offs a10
                  refine ⟨_, rfl, _, rfl, td, V.ref a1', rfl, dg, a1', _, rfl, .inl (SqL.of ha1), ?_⟩
                  refine ⟨_, rfl, _, rfl, sz, _, (k1 : Int), _, rfl, rfl, SqL.of rf.hs, atI_nat (natV_get (i := k1) (u := sizes2.getD k1 0) (by rw [getD_at (show k1 < sizes2.length by omega)]; exact List.getElem?_eq_getElem (show k1 < sizes2.length by omega))), ?_⟩
                  refine ⟨_, _, rfl, rfl, _, rfl, ite2 (fun h => ?_) (fun h => ?_)⟩
                  · have h := of_decide_eq_true h
                    rw [List.length_map] at h
                    have lt1 : l1.length < sizes2.getD k1 0 := by omega
                    -- the lot is cut
                    refine ⟨_, rfl, _, rfl, _, rfl, td, V.ref a1', rfl, dg, _, rfl, _, rfl, _, rfl, a1', blk, mb, sz, k1, l1, block2, ma2, sizes2, rfl, ha1, rf.hb, rf.hm, rf.hs, a5.1, a5.2.1, a5.2.2.1, rf.ds.1, rf.ds.2.1.symm, rf.ds.2.2.1.symm, fun s hs => ?_, by omega, Nat.le_of_lt lt1, by omega, by omega, fun H11 kp11 hb11 hm11 hs11 => ?_⟩
                    · rw [ti2.ri.lb]
                      exact (slt s ((inl s).mp hs).1).1
                    obtain ⟨d1, d2, d3, d4, d5, d6, d7, d8, d9, d10⟩ := rf.ds
                    have k11 : ∀ {z : Addr} {o : HO}, z ≠ blk → z ≠ mb → z ≠ sz → H10 z = some o → H11 z = some o := fun n1 n2 n3 e => kp11 _ _ (fun q => by
                      rcases q with q | q | q
                      · exact n1 q
                      · exact n2 q
                      · exact n3 q) e
                    have hw11 := k11 d4 d5 d6 rf.hw
                    have hq11 := k11 d7 d8 d9 rf.hq
                    refine ⟨_, rfl, .inl ⟨rfl, _, SqL.of hq11⟩, _, rfl, _, rfl, _, rfl, sz, wt, k1, _, wait2, rfl, hs11, hw11, d6.symm, by omega, by rw [List.length_set, List.length_append, List.length_singleton]; omega, by omega, fun H12 c' hc kp12 hw12 => ?_⟩
                    have hq12 := kp12 _ _ d10 hq11
                    have qb := nodup_len ti2.qn (fun b hb => wv_lt ((ti2.qw b).mp hb))
                    refine ⟨qu, _, _, rfl, rfl, hq12, small9 (by rw [List.length_map]; omega), ?_⟩
                    have eq12 : queue2.map natV ++ [V.int (c' : Int)] = (queue2 ++ [c']).map natV := by
                      rw [List.map_append]
                      rfl
                    rw [eq12]
                    have up : ∀ {z : Addr} {o : HO}, z ≠ blk ∧ z ≠ mb ∧ z ≠ sz ∧ z ≠ wt ∧ z ≠ qu → H10 z = some o → (upd H12 qu (.lst ((queue2 ++ [c']).map natV))) z = some o := fun n e => by
                      rw [upd_ne n.2.2.2.2]
                      exact kp12 _ _ n.2.2.2.1 (k11 n.1 n.2.1 n.2.2.1 e)
                    have ne7 : ∀ {z : Addr}, H7 z = none → z ≠ blk ∧ z ≠ mb ∧ z ≠ sz ∧ z ≠ wt ∧ z ≠ qu := fun e => (offs e).1
                    have fm' : ∀ a ∈ ma2 ++ [a1'], a ≠ blk ∧ a ≠ mb ∧ a ≠ sz ∧ a ≠ wt ∧ a ≠ qu := fun a ha => by
                      rcases List.mem_append.mp ha with q | q
                      · exact rf.fm a q
                      · rw [List.mem_singleton.mp q]
                        exact a5
                    have hb13 : (upd H12 qu (.lst ((queue2 ++ [c']).map natV))) blk = some (.lst ((mark mem2.length block2 l1).map oV)) := by
                      rw [upd_ne d7.symm, ← mal2]
                      exact kp12 _ _ d4.symm hb11
                    have hm13 : (upd H12 qu (.lst ((queue2 ++ [c']).map natV))) mb = some (.lst ((ma2 ++ [a1']).map V.ref)) := by
                      rw [upd_ne d8.symm]
                      exact kp12 _ _ d5.symm hm11
                    have hs13 : (upd H12 qu (.lst ((queue2 ++ [c']).map natV))) sz = some (.lst (((sizes2 ++ [l1.length]).set k1 (sizes2.getD k1 0 - l1.length)).map natV)) := by
                      rw [upd_ne d9.symm]
                      exact kp12 _ _ d6.symm hs11
                    have hw13 : (upd H12 qu (.lst ((queue2 ++ [c']).map natV))) wt = some (.lst (((wait2 ++ [false]).set c' true).map V.bl)) := by
                      rw [upd_ne d10.symm]
                      exact hw12
                    have hq13 : (upd H12 qu (.lst ((queue2 ++ [c']).map natV))) qu = some (.lst ((queue2 ++ [c']).map natV)) := upd_same
                    clear kp11 kp12 k11 hb11 hm11 hs11 hw11 hw12 hq11 hq12
                    generalize upd H12 qu (.lst ((queue2 ++ [c']).map natV)) = H13 at *
                    refine ⟨up td5 gd, fun j k l e => ?_, up hd5 hh10, _, _, _, _, _, _, _, _, _, rfl, ⟨fun b o nb e => up ⟨fun z => nb (.inl z), fun z => nb (.inr z), fun z => (by rw [z, rf.new.1] at e; cases e), fun z => (by rw [z, rf.new.2.1] at e; cases e), fun z => (by rw [z, rf.new.2.2] at e; cases e)⟩ (rf.kp b o nb e), hb13, hm13, (rf.mat.push ha1).keep (W := fun b => b = blk ∨ b = mb ∨ b = sz ∨ b = wt ∨ b = qu) (fun b o nb e => up ⟨fun z => nb (.inl z), fun z => nb (.inr (.inl z)), fun z => nb (.inr (.inr (.inl z))), fun z => nb (.inr (.inr (.inr (.inl z)))), fun z => nb (.inr (.inr (.inr (.inr z))))⟩ e) (fun a ha q => ?_), hs13, hw13, hq13, fm', ⟨d1, d2, d3, d4, d5, d6, d7, d8, d9, d10⟩, rf.new⟩, ti2.cut km ndl hl (List.length_pos_iff.mpr nel) lt1 (fun s t hs ht he hsl => ?_) (by rw [← wl2]; exact hc), mi.cut TG8 hl1 (moved_mark ti2.ri hl) fun j k l' ij e z => ?_⟩
                    · obtain ⟨a, e1, e2, e3, e4⟩ := lists j k l e
                      exact ⟨a, e1, up (ne7 e3) e2, e3, e4⟩
                    · obtain ⟨f1, f2, f3, f4, f5⟩ := fm' a ha
                      rcases q with q | q | q | q | q
                      · exact f1 q
                      · exact f2 q
                      · exact f3 q
                      · exact f4 q
                      · exact f5 q
                    · obtain ⟨p, hp, hsp⟩ := List.mem_flatMap.mp ((inl s).mp hsl).1
                      obtain ⟨p1, p2, p3⟩ := hdL p hp
                      obtain ⟨r1, r2⟩ := ((hf c p cL p1).2 s).mp hsp
                      obtain ⟨t', ⟨w1, w2⟩, w3⟩ := he.way ⟨r2, p3⟩
                      have tR := ((ti2.dom t).mp ⟨_, ht⟩).1
                      have t'R := ron t c t' tR w1
                      obtain ⟨b, hb⟩ := (dom0 t').mpr ⟨t'R, w2⟩
                      have eb := so0 p t' u b ((hdm p).mp hp) hb w3
                      have t'h := (hdm t').mpr (by rw [hb, eb])
                      exact (inl t).mpr ⟨List.mem_flatMap.mpr ⟨t', t'h, ((hf c t' cL (hdL t' t'h).1).2 t).mpr ⟨tR, w1⟩⟩, ht⟩
                    · have := keyb j k l' ij e
                      omega
                  · have h : ¬ (((l1.map natV).length : Int) < (sizes2.getD k1 0 : Int)) := fun q => h (decide_eq_true q)
                    rw [List.length_map] at h
                    have full : ∀ s, bv block2 s = some k1 → s ∈ held.flatMap (f c) := fun s hs => by
                      have := cnt_all ((ti2.ri.nd k1).filter (isB block2 k1)) ndl (fun y hy => List.mem_filter.mpr ⟨ti2.ri.sub y k1 (hl y hy), decide_eq_true (hl y hy)⟩) (by rw [← szk]; omega) s (List.mem_filter.mpr ⟨ti2.ri.sub s k1 hs, decide_eq_true hs⟩)
                      exact ((inl s).mp this).1
                    exact ⟨gd, lists, hh10, block2, mem2, sizes2, wait2, queue2, ma2, _, _, _, rfl, rf, ti2, mi.stay TG8 hl1 full⟩
                · rintro σ H10 ⟨gd, lists, hh10, block2, mem2, sizes2, wait2, queue2, ma2, z9, z12, z13, rfl, rf, ti2, mi⟩
                  rw [lnk] at mi
                  refine ⟨gd, block2, mem2, sizes2, wait2, queue2, ma2, _, _, _, _, _, rfl, rf.off (H0of tg8.td0) td5 (fun q => ?_), ti2.letter (srcs := held.flatMap (f c)) (fun s p b b' h1 h2 h3 => ?_) (mi.done fun s b h1 => (ti7.dom s).mpr ((ti2.dom s).mp ⟨b, h1⟩)), by rw [upd_ne tdh.symm]; exact hh10⟩
                  · obtain ⟨b, hb'⟩ := List.mem_iff_getElem?.mp q
                    have := rf.mat.at_ b td hb'
                    rw [gd] at this
                    cases this
                  · have hs := (ti2.dom s).mp ⟨b, h1⟩
                    refine ⟨fun q => ?_, fun q => ?_⟩
                    · obtain ⟨t, ht, hst⟩ := List.mem_flatMap.mp q
                      have e2 := (((hf c t cL (hdL t ht).1).2 s).mp hst).2
                      rw [h2] at e2
                      rw [Option.some.inj e2]
                      exact (hdm t).mp ht
                    · have hp := (hdm p).mpr q
                      exact List.mem_flatMap.mpr ⟨p, hp, ((hf c p cL (hdL p hp).1).2 s).mpr ⟨hs.1, h2⟩⟩
            · rintro σ H7 ⟨block1, mem1, sizes1, wait1, queue1, ma1, y9, y10, y11, y12, y13, rfl, rf7, ti7, hh7⟩
              rw [List.length_map, BB.wl] at ti7
              have q7 := ti7.ql
              have q6 := ti.ql
              have m7 := ti7.ri.many
              refine ⟨⟨block1, mem1, sizes1, wait1, queue1, ma1, _, _, _, _, _, _, _, _, _, rfl, rf7, ti7⟩, ?_⟩
              rw [rf7.hq, rf7.hm]
              show (queue1.map natV).length + (TT - (ma1.map V.ref).length) < _
              rw [List.length_map, List.length_map, rf7.mat.ln]
              rw [List.length_append, List.length_singleton] at q6
              omega
      · rintro σ H6 Q1 Q2 hQ ⟨x, e1, a, xs, e2, e3, q⟩
        exact ⟨x, e1, a, xs, e2, e3, hQ _ _ q⟩
end
/-! ### an integer as a test -/
section
variable {X : Cx}
def tTruI (t : TE) : TT := fun σ H Q => t σ H fun x H1 => ∃ i : Int, x = .int i ∧ Q (i != 0) H1
theorem pt_intT {e : Expr} {t : TE} (he : PE X e t) (hi : ∀ whole, isTrue e X.env whole = (do let v ← whole; standAt e.pos; holding [v] (truthy v)) := by intro _; rfl) : PT X e (tTruI t) := by
  refine ⟨fun pins s σ H Q I h => ?_⟩
  refine isTrue_plain (thn (he.run pins s σ H _ I h) fun v s1 ⟨x, H1, I1, r1, i, ex, q⟩ => ?_) (hi _)
  subst ex
  obtain ⟨t0, rfl⟩ := r1
  exact PySem.P.truthy_int ⟨H1, I1, q⟩
end
theorem BA.ex {H : Hp} {bf : Addr} {ws : List Addr} {cs : List (List Addr)} {L n : Nat} {f : Nat → Nat → List Nat} (h : BA H bf ws cs L n f) {a : Addr} (ha : BAd bf ws cs a) : ∃ o, H a = some o := by
  rcases ha with rfl | ha | ⟨cc, h1, h2⟩
  · exact ⟨_, h.top⟩
  · obtain ⟨c, hc⟩ := List.mem_iff_getElem?.mp ha
    have l := (List.getElem?_eq_some_iff.mp hc).1
    exact ⟨_, (h.mid c a _ hc (List.getElem?_eq_getElem (by rw [h.cl, ← h.wl]; exact l))).1⟩
  · obtain ⟨c, hc⟩ := List.mem_iff_getElem?.mp h1
    obtain ⟨t, ht⟩ := List.mem_iff_getElem?.mp h2
    exact ⟨_, h.low c t cc a hc ht⟩
theorem reach_nx {rs : Rows} {s c t : Nat} (h : Reach rs s) (e : nx rs s c = some t) : Reach rs t := by
  unfold nx at e
  rw [List.getD_eq_getElem?_getD] at e
  cases e1 : rs[s]? with
  | none =>
    have : rs.getD s [] = [] := by rw [List.getD_eq_getElem?_getD, e1]; rfl
    rw [this] at e
    cases e
  | some row =>
    have : rs.getD s [] = row := by rw [List.getD_eq_getElem?_getD, e1]; rfl
    rw [this] at e
    cases e2 : row[c]? with
    | none =>
      rw [e2] at e
      cases e
    | some o =>
      rw [e2] at e
      have : o = some t := e
      subst this
      exact .s h e1 e2
/-- what leads on among the states that are come to is what lives -/
theorem ld_live {rs : Rows} {es : List Bool} {L n : Nat} {ord M : List Nat} {f : Nat → Nat → List Nat} {Pd : Nat → Prop} (wide : ∀ r ∈ rs, r.length = L) (tgt : ∀ r ∈ rs, ∀ t, some t ∈ r → t < rs.length) (hm : ∀ u, u ∈ ord ↔ Reach rs u) (hf : ∀ c t s, s ∈ f c t ↔ (s ∈ ord ∧ nx rs s c = some t)) (h : Ld n f L Pd (ord.filter fun s => es.getD s false) M [] (fun _ _ => False)) (hP : ∀ s, Pd s → Live rs es s) : ∀ s, Reach rs s → (s ∈ M ↔ Live rs es s) := by
  have key : ∀ (w : List Nat) (s : Nat), Reach rs s → acc rs es w s = true → s ∈ M := by
    intro w
    induction w with
    | nil => exact fun s hs e => h.go s (List.mem_filter.mpr ⟨(hm s).mpr hs, e⟩)
    | cons c w ih =>
      intro s hs e
      cases ep : nx rs s c with
      | none =>
        rw [acc_none ep] at e
        cases e
      | some t =>
        rw [acc_cons ep] at e
        have ht := ih t (reach_nx hs ep) e
        rcases h.cl t ht List.not_mem_nil c (nx_lt wide ep).2.1 with q | q
        · exact q.elim
        · exact q s ((hf c t s).mpr ⟨(hm s).mpr hs, ep⟩)
  exact fun s hs => ⟨fun q => hP s (h.so s q), fun ⟨w, hw⟩ => key w s hs hw⟩

/-- as many lots as states are told apart -/
def Cls (rs : Rws) (es : List Bool) (N : Nat) : Prop := ∃ c : Nat → Nat, (∀ s, Reach rs s → c s < N) ∧ ∀ s t, Reach rs s → Reach rs t → c s = c t → Eqv rs es rs es s t
theorem Cls.own {L N : Nat} {rs : Rows} {es : List Bool} (M : GOk L rs) (h : rs.length ≤ N) : Cls rs es N := ⟨id, fun s r => Nat.lt_of_lt_of_le (M.reach_lt s r) h, fun s t _ _ e => by
  have e : s = t := e
  rw [e]
  exact Eqv.refl t⟩
theorem ti_cap {rs : Rws} {es : List Bool} {N T : Nat} {block : List (Option Nat)} {mem : List (List Nat)} {sizes : List Nat} {wait : List Bool} {queue : List Nat} {k : Int} {S : Nat → Prop} {c0 : Nat} (C : Cls rs es N) (h : TI rs es (Reach rs) T block mem sizes wait queue k S c0) : mem.length ≤ N := by
  obtain ⟨c, c1, c2⟩ := C
  have rep : ∀ b, b < mem.length → ∃ s, bv block s = some b := fun b hb => by
    have hz := h.ri.szs b hb
    have lb : b < sizes.length := by rw [← h.ri.ms]; exact hb
    have hp := h.ri.pos (sizes.getD b 0) (by rw [getD_at lb]; exact List.getElem_mem lb)
    rw [hz] at hp
    obtain ⟨s, hs⟩ := List.exists_mem_of_length_pos (Nat.lt_of_lt_of_le Nat.zero_lt_one hp)
    exact ⟨s, of_decide_eq_true (List.mem_filter.mp hs).2⟩
  have ex : ∃ g : Nat → Nat, ∀ b, b < mem.length → bv block (g b) = some b := by
    refine ⟨fun b => if hb : b < mem.length then (rep b hb).choose else 0, fun b hb => ?_⟩
    show bv block (if hb : b < mem.length then (rep b hb).choose else 0) = some b
    rw [dif_pos hb]
    exact (rep b hb).choose_spec
  obtain ⟨g, hg⟩ := ex
  have rg : ∀ b, b < mem.length → Reach rs (g b) := fun b hb => ((h.dom (g b)).mp ⟨b, hg b hb⟩).1
  have nd : ((List.range mem.length).map fun b => c (g b)).Nodup := by
    rw [List.nodup_iff_pairwise_ne, List.pairwise_map]
    refine List.Pairwise.imp_of_mem ?_ (List.nodup_iff_pairwise_ne.mp List.nodup_range)
    intro a b ha hb ne e
    have la := List.mem_range.mp ha
    have lb := List.mem_range.mp hb
    exact ne (h.so _ _ _ _ (hg a la) (hg b lb) (c2 _ _ (rg a la) (rg b lb) e))
  have := nodup_len (n := N) nd fun x hx => by
    obtain ⟨b, hb, rfl⟩ := List.mem_map.mp hx
    exact c1 _ (rg b (List.mem_range.mp hb))
  rwa [List.length_map, List.length_range] at this
section
variable {P : Program} {w : World} {K : PySem.W.Frag} {mg : Str → Option Value} {base : Heap}
theorem scSmallM : FnScope ["rows", "marks", "most", "order", "before", "leads", "state", "block", "members"] ["rows", "marks", "most"] (defScope sSmallM) := ⟨rfl, rfl, rfl, by decide +kernel, rfl, by decide +kernel, by decide +kernel⟩
def spSmallM (K : PySem.W.Frag) : Sp := fun vs H Q _ => ∃ (L N : Nat) (rs : Rows) (es : List Bool) (t u : Bool) (pr mk : Addr) (rvs : List V) (B : Addr → Prop), vs = [.ref pr, .ref mk, .int (N : Int)] ∧ GOk L rs ∧ es.length = rs.length ∧ Cls rs es N ∧ GA H L rs t u pr rvs ∧ TB B H ∧ H mk = some (.lst ((es.map b2n).map natV)) ∧
  ∀ (H' : Hp) (r p1 p2 : Addr) (out : Rws) (oe : List Bool), Same H H' → Rd H' r (.tup [.ref p1, .ref p2]) → Dt B K H' (.ref p1) (.tuple (out.map rowDt)) → Rd H' p2 (.tup ((oe.map b2n).map natV)) → Smallest rs es L out oe → Q (.ref r) H'
theorem ok_smallM {f fRE fSO fLD fBL fRF fNU : Addr} {fd fdRE fdSO fdLD fdBL fdRF fdNU : FuncData} (F : Fun K "smallest_marked" "smallest_marked" sSmallM f fd)
    (RE : FnOk P w K mg base CX0 1 fRE fdRE ["rows"] spReached) (FRE : Fun K "reached" "reached" sReached fRE fdRE) (bRE : Binds K fdRE ["rows"] []) (gRE : mg "reached" = some (.ref fRE))
    (SO : FnOk P w K mg base CX0 1 fSO fdSO ["letters", "rows", "order"] spSources) (FSO : Fun K "sources" "sources" sSources fSO fdSO) (bSO : Binds K fdSO ["letters", "rows", "order"] []) (gSO : mg "sources" = some (.ref fSO))
    (LD : FnOk P w K mg base CX0 1 fLD fdLD ["before", "goals", "many"] spLeading) (FLD : Fun K "leading" "leading" sLeading fLD fdLD) (bLD : Binds K fdLD ["before", "goals", "many"] []) (gLD : mg "leading" = some (.ref fLD))
    (BL : FnOk P w K mg base CX0 1 fBL fdBL ["rows", "marks", "states", "leads"] spBlocks) (FBL : Fun K "first_blocks" "first_blocks" sBlocks fBL fdBL) (bBL : Binds K fdBL ["rows", "marks", "states", "leads"] []) (gBL : mg "first_blocks" = some (.ref fBL))
    (RF : FnOk P w K mg base CX0 2 fRF fdRF ["before", "block", "members", "most"] spRefine) (FRF : Fun K "refine" "refine" sRefine fRF fdRF) (bRF : Binds K fdRF ["before", "block", "members", "most"] []) (gRF : mg "refine" = some (.ref fRF))
    (NU : FnOk P w K mg base CX0 1 fNU fdNU ["rows", "marks", "block"] (spNumbered K)) (FNU : Fun K "numbered" "numbered" sNumbered fNU fdNU) (bNU : Binds K fdNU ["rows", "marks", "block"] []) (gNU : mg "numbered" = some (.ref fNU)) (T : Mg mg) : FnOk P w K mg base CX0 3 f fd ["rows", "marks", "most"] (spSmallM K) := by
  refine F.ok scSmallM (fun vs H Q E h => ?_) (fun cdv A outer s H vs Q E hr h => ?_)
  · obtain ⟨L, N, rs, es, kt, ku, pr, mk, rvs, B, rfl, _⟩ := h
    rfl
  · obtain ⟨L, N, rs, es, kt, ku, pr, mk, rvs, B, rfl, M, esl, CC, MM, tb, hmk, k⟩ := h
    have l4 := M.lN
    have l1 := M.l1
    have L1 := M.L1
    refine ⟨_, (pss_cons (ps_set (i := 3) scSmallM.nd rfl (.inl rfl) (pe_call RE (hr.mono (by decide)) (by rfl) gRE FRE.kp bRE .nil pass0 (pa_cons (pv 0) pa_nil)))
      (pss_cons (ps_set (i := 4) scSmallM.nd rfl (.inl rfl) (pe_call SO (hr.mono (by decide)) (by rfl) gSO FSO.kp bSO .nil pass0 (pa_cons (pe_callB (r := rLen K) call_len_seq (by rfl) T.len PySem.boot_len (pa_cons (pe_ix (r := rIxQ) ix_any (pv 0) pe_int (fun _ _ => rfl)) pa_nil)) (pa_cons (pv 0) (pa_cons (pv 3) pa_nil)))))
      (pss_cons (ps_set (i := 5) scSmallM.nd rfl (.inr rfl) (pe_call LD (hr.mono (by decide)) (by rfl) gLD FLD.kp bLD .nil pass0 (pa_cons (pv 4) (pa_cons (pe_lc (own := [("state", 6)]) (g := gName 6) rfl scSmallM.nd (pi_list (pv 3)) (blkOk_by (N := ["rows", "marks", "most", "order", "before", "leads", "state", "block", "members"]) (sc := defScope sSmallM) (by decide +kernel)) (fun _ _ _ _ _ => pg_name (i := 6) scSmallM.nd rfl (Or.inl rfl)) (fun _ _ _ _ _ => pts_one (pt_intT (pe_ix (r := rIxL K) ix_list (pv 1) (pv 6) (fun _ _ => rfl)))) (fun _ _ _ _ _ => (pv 6))) (pa_cons (pe_callB (r := rLen K) call_len_seq (by rfl) T.len PySem.boot_len (pa_cons (pv 0) pa_nil)) pa_nil)))))
      (pss_cons (ps_if (pt_not (pt_val (pe_ix (r := rIxL K) ix_list (pv 5) pe_int (fun _ _ => rfl)))) (pss_one (ps_ret (pe_tup (pa_cons (pe_tup (pa_cons (pe_op op_repS (pe_tup (pa_cons pe_non pa_nil)) (pe_callB (r := rLen K) call_len_seq (by rfl) T.len PySem.boot_len (pa_cons (pe_ix (r := rIxQ) ix_any (pv 0) pe_int (fun _ _ => rfl)) pa_nil))) pa_nil)) (pa_cons (pe_tup (pa_cons pe_int pa_nil)) pa_nil))))) pss_nil)
      (pss_cons (ps_asg (pe_call BL (hr.mono (by decide)) (by rfl) gBL FBL.kp bBL .nil pass0 (pa_cons (pv 0) (pa_cons (pv 1) (pa_cons (pe_lc (own := [("state", 6)]) (g := gName 6) rfl scSmallM.nd (pi_list (pv 3)) (blkOk_by (N := ["rows", "marks", "most", "order", "before", "leads", "state", "block", "members"]) (sc := defScope sSmallM) (by decide +kernel)) (fun _ _ _ _ _ => pg_name (i := 6) scSmallM.nd rfl (Or.inl rfl)) (fun _ _ _ _ _ => pts_one (pt_val (pe_ix (r := rIxL K) ix_list (pv 5) (pv 6) (fun _ _ => rfl)))) (fun _ _ _ _ _ => (pv 6))) (pa_cons (pv 5) pa_nil))))) (pg_tup rfl (pgs_cons (pg_name (i := 7) scSmallM.nd rfl (.inl rfl)) (pgs_cons (pg_name (i := 8) scSmallM.nd rfl (.inl rfl)) pgs_nil))))
      (pss_cons (ps_expr (pe_call RF (hr.mono (by decide)) (by rfl) gRF FRF.kp bRF .nil pass0 (pa_cons (pv 4) (pa_cons (pv 7) (pa_cons (pv 8) (pa_cons (pv 2) pa_nil))))))
      (pss_one (ps_ret (pe_call NU (hr.mono (by decide)) (by rfl) gNU FNU.kp bNU .nil pass0 (pa_cons (pv 0) (pa_cons (pv 1) (pa_cons (pv 7) pa_nil)))))))))))), ?_⟩
    refine ⟨_, rfl, L, rs, kt, ku, pr, rvs, rfl, M, MM, fun H1 od ord s1 od0 hod O => ?_⟩
    have MM1 := MM.same s1
    obtain ⟨row0, hrow0⟩ : ∃ row0, rs[0]? = some row0 := ⟨_, List.getElem?_eq_getElem (by omega)⟩
    have lrow0 := M.row row0 (List.mem_of_getElem? hrow0)
    obtain ⟨q0, hq1, hq2⟩ := MM1.row 0 row0 hrow0
    refine ⟨_, rfl, kt, pr, rvs, 0, _, rfl, rfl, MM1.hr, atI_nat (j := 0) hq1, q0, _, rfl, hq2.any, _, rfl, _, rfl, L, rs, kt, ku, pr, od, rvs, ord, congrArg (fun q : Nat => [V.int (q : Int), V.ref pr, V.ref od]) (show (row0.map oV).length = L by rw [List.length_map, lrow0]), M, MM1, hod, O.lt, by have := O.len; omega, fun H2 bf ws cs s2 fBA BB => ?_⟩
    have hod2 := s2 _ _ hod
    have hmk2 := s2 _ _ (s1 _ _ hmk)
    have MM2 := MM1.same s2
    have ol := O.len
    have onx : ∀ c t s, s ∈ (ord.filter fun s => decide (nx rs s c = some t)) ↔ (s ∈ ord ∧ nx rs s c = some t) := fun c t s => by
      rw [List.mem_filter, decide_eq_true_eq]
    -- the states that end words
    refine ⟨_, rfl, _, rfl, od, rfl, ⟨_, SqL.of hod2⟩, fun D hD => ?_⟩
    refine lc_list (K := K) (a := od) (xs := ord.map natV) (KInv (fun s : Nat => es.getD s false) natV ord H2 D) (kstart hD) (fun i H' _ q => SqL.of (q.1 _ _ hod2)) ?_ ?_
    · rintro i x H3 hx p1
      obtain ⟨u, hu, rfl⟩ := natV_of hx
      have hun := O.lt u (List.mem_of_getElem? hu)
      have hue : u < es.length := by rw [esl]; exact hun
      have emk : ((es.map b2n).map natV)[u]? = some (natV (b2n (es.getD u false))) := by
        rw [List.getElem?_map, List.getElem?_map, List.getElem?_eq_getElem hue, getD_at hue]
        rfl
      refine ⟨rfl, _, rfl, _, rfl, mk, _, (u : Int), _, rfl, rfl, SqL.of (p1.1 _ _ hmk2), atI_nat emk, _, rfl, ?_⟩
      cases hb : es.getD u false with
      | true => exact ⟨_, rfl, kyes (t := fun s : Nat => es.getD s false) (small9 (by omega)) hD hu hb p1 (Same.refl _)⟩
      | false => exact kno (t := fun s : Nat => es.getD s false) hu hb p1 (Same.refl _)
    · rintro H3 p1
      obtain ⟨s3, hl3⟩ := kend (List.length_map _) p1
      have MM3 := MM2.same s3
      refine ⟨_, rfl, pr, rvs, rfl, MM3.hr.any, ?_⟩
      refine ⟨bf, D, ws, cs, L, rs.length, _, ord.filter (fun s => es.getD s false), Live rs es, congrArg (fun q : Nat => [V.ref bf, V.ref D, V.int (q : Int)]) MM.hl, BB.same s3, hl3, l1, l4, O.nd.filter _, fun s hs => ?_, fun c t s hc ht hs => ?_, fun H4 ld Mk s4 ld0 hld LdM => ?_⟩
      · obtain ⟨h1, h2⟩ := List.mem_filter.mp hs
        exact ⟨O.lt s h1, live_end h2⟩
      · obtain ⟨h1, h2⟩ := (onx c t s).mp hs
        exact ⟨O.lt s h1, fun q => live_on h2 q⟩
      have lvM := ld_live M.row M.tgt O.mem onx LdM fun s q => q
      have s14 := ((s1.trans s2).trans s3).trans s4
      have MM4 := MM3.same s4
      refine ⟨_, rfl, ld, _, 0, _, rfl, rfl, SqL.of hld, atI_nat (j := 0) (knB_get (by omega)), _, rfl, ?_⟩
      by_cases h0 : 0 ∈ Mk
      · rw [decide_eq_true h0]
        have live0 := (lvM 0 .z).mp h0
        have hod4 := s4 _ _ (s3 _ _ hod2)
        refine ⟨_, rfl, _, rfl, _, rfl, od, rfl, ⟨_, SqL.of hod4⟩, fun D2 hD2 => ?_⟩
        refine lc_list (K := K) (a := od) (xs := ord.map natV) (KInv (fun s : Nat => decide (s ∈ Mk)) natV ord H4 D2) (kstart hD2) (fun i H' _ q => SqL.of (q.1 _ _ hod4)) ?_ ?_
        · rintro i x H5 hx p1
          obtain ⟨u, hu, rfl⟩ := natV_of hx
          have hun := O.lt u (List.mem_of_getElem? hu)
          refine ⟨rfl, _, rfl, _, rfl, ld, _, (u : Int), _, rfl, rfl, SqL.of (p1.1 _ _ hld), atI_nat (knB_get hun), _, rfl, ?_⟩
          by_cases hb : u ∈ Mk
          · rw [decide_eq_true hb]
            exact ⟨_, rfl, kyes (t := fun s : Nat => decide (s ∈ Mk)) (small9 (by omega)) hD2 hu (decide_eq_true hb) p1 (Same.refl _)⟩
          · rw [decide_eq_false hb]
            exact kno (t := fun s : Nat => decide (s ∈ Mk)) hu (decide_eq_false hb) p1 (Same.refl _)
        · rintro H5 p1
          obtain ⟨s5, hl5⟩ := kend (List.length_map _) p1
          have s15 := s14.trans s5
          have MM5 := MM4.same s5
          have hdS : ∀ s, s ∈ (ord.filter fun s => decide (s ∈ Mk)) ↔ (Reach rs s ∧ Live rs es s) := fun s => by
            rw [List.mem_filter, decide_eq_true_eq, O.mem]
            exact ⟨fun q => ⟨q.1, (lvM s q.1).mp q.2⟩, fun q => ⟨q.1, (lvM s q.1).mpr q.2⟩⟩
          refine ⟨_, rfl, L, rs, es, kt, ku, pr, mk, D2, ld, rvs, ord.filter (fun s => decide (s ∈ Mk)), Mk, rfl, M, esl, MM5, s15 _ _ hmk, hl5, O.nd.filter _, fun s hs => O.lt s (List.mem_filter.mp hs).1, s5 _ _ hld, fun H6 r6 blk mb nm block nums mem ma FI6 b0 m0 nbm hr6 => ?_⟩
          have s16 := s15.trans FI6.sm
          have rl : ∀ s, Reach rs s → s < rs.length := fun s hs => O.lt s ((O.mem s).mpr hs)
          have ti := FI6.fb.ti M.row hdS rl (fun s c t hs e => reach_nx hs e) (fun t ht => by rw [decide_eq_true_eq]; exact lvM t ht) (fun _ => False)
          have tl : (ord.filter fun s => decide (s ∈ Mk)).length ≤ rs.length := Nat.le_trans (List.length_filter_le _ _) ol
          have BB5 := BB.same (s3.trans (s4.trans s5))
          refine ⟨r6, _, rfl, .inl hr6, rfl, _, _, rfl, _, _, rfl, rfl, ?_⟩
          refine ⟨_, rfl, _, rfl, _, rfl, _, rfl, L, rs, es, bf, blk, mb, ws, cs, _, Reach rs, _, N, block, mem, ma, _, rfl, M, BB5.same FI6.sm, fun c t hc ht => ⟨O.nd.filter _, fun s => by rw [onx, O.mem]⟩, rl, fun s c t hs e => reach_nx hs e, FI6.hb, FI6.hm, FI6.mat, nbm, fun a ha => ?_, fun a ha => ⟨(FI6.fr a ha).2.1, (FI6.fr a ha).2.2.2⟩, tl, ti, (fun _ _ _ _ _ _ _ z => ti_cap CC z), fun H7 block' kp hb7 lb7 PB7 dom7 => ?_⟩
          · obtain ⟨o, ho⟩ := BB5.ex ha
            exact ⟨(fun z => by rw [z, b0] at ho; cases ho), (fun z => by rw [z, m0] at ho; cases ho)⟩
          have s57 : Same H5 H7 := fun b o e => kp b o (fun z => by
            rcases z with z | z
            · rw [z, b0] at e
              cases e
            · rw [z, m0] at e
              cases e) (FI6.sm _ _ e)
          have s17 := s15.trans s57
          refine ⟨_, rfl, _, rfl, _, rfl, L, rs, es, kt, ku, pr, mk, blk, rvs, es.map b2n, block', B, rfl, M, MM5.same s57, tb_same s17 tb, s17 _ _ hmk, by rw [List.length_map, esl], hb7, lb7, PB7, (dom7 0).mpr ⟨.z, live0⟩, fun H8 r p1 p2 picked nums done s8 hr8 d8 hp8 ni8 hd8 => ?_⟩
          refine k H8 r p1 p2 done (picked.map fun p => es.getD p false) (s17.trans s8) hr8 d8 ?_ (.inl ⟨picked, ni8.canon PB7 hd8⟩)
          have : (picked.map fun p => (es.map b2n).getD p 0) = (picked.map fun p => es.getD p false).map b2n := by
            rw [List.map_map]
            refine List.map_congr_left fun p hp => ?_
            have pl : p < es.length := by rw [esl]; exact (ni_lt ni8 PB7).1 p hp
            show (es.map b2n).getD p 0 = b2n (es.getD p false)
            rw [List.getD_eq_getElem?_getD, List.getElem?_map, List.getElem?_eq_getElem pl, getD_at pl]
            rfl
          rw [← this]
          exact hp8
      · rw [decide_eq_false h0]
        have nl : ¬ Live rs es 0 := fun q => h0 ((lvM 0 .z).mpr q)
        have tb4 := tb_same s14 tb
        refine ⟨by show 1 ≤ sizeLine; decide, fun u1 hu1 => ?_⟩
        have e1 := same_new (o := .tup [.non]) hu1
        have MM5 := MM4.same e1
        obtain ⟨q5, hq51, hq52⟩ := MM5.row 0 row0 hrow0
        refine ⟨_, rfl, kt, pr, rvs, 0, _, rfl, rfl, MM5.hr, atI_nat (j := 0) hq51, q5, _, rfl, hq52.any, ?_⟩
        refine ⟨u1, ((row0.map oV).length : Int), _, rfl, rfl, .inl upd_same, List.cons_ne_nil _ _, by rw [List.length_map, lrow0]; omega, by rw [List.length_map, lrow0]; have := M.L3; omega, by show 1 ≤ 1000; decide, fun q1 H6 s6 hq1 w1 => ?_⟩
        have n1 := nb_of (tb_same e1 tb4) (tb_off tb4 hu1) w1
        have tb6 := tb_same s6 (tb_same e1 tb4)
        refine ⟨by show 1 ≤ sizeLine; decide, fun u2 hu2 => ?_⟩
        have e2 := same_new (o := .tup [.ref q1]) hu2
        have n2 := tb_off tb6 hu2
        refine ⟨by show 1 ≤ sizeLine; decide, fun u3 hu3 => ?_⟩
        have e3 := same_new (o := .tup [.int 0]) hu3
        refine ⟨by show 2 ≤ sizeLine; decide, fun r nr => ?_⟩
        have e4 := same_new (o := .tup [.ref u2, .ref u3]) nr
        have er : (List.replicate ((row0.map oV).length : Int).toNat [V.non]).flatten = (List.replicate L (none : Option Nat)).map oV := by
          rw [Int.toNat_natCast, List.length_map, lrow0, List.map_replicate, List.flatten_replicate_singleton]
          rfl
        rw [er] at hq1
        have s26 := e2.trans (e3.trans e4)
        refine k _ r u2 u3 [List.replicate L none] [false] (s14.trans (e1.trans (s6.trans s26))) (.inl upd_same) ?_ (same_rd e4 (.inl upd_same)) (.inr ⟨nl, rfl, rfl⟩)
        exact .tup n2 (same_rd (e3.trans e4) (.inl upd_same)) (.cons (.tup n1 (same_rd s26 hq1) (dt_cs o_cs _)) .nil)
end
section
variable {P : Program} {w : World} {K : PySem.W.Frag} {mg : Str → Option Value} {base : Heap}
theorem scSmallG : FnScope ["letters", "rows", "ends", "found", "marks", "end", "mark"] ["letters", "rows", "ends"] (defScope sSmallG) := ⟨rfl, rfl, rfl, by decide +kernel, rfl, by decide +kernel, by decide +kernel⟩
def spGraph (K : PySem.W.Frag) : Sp := fun vs H Q _ => ∃ (L : Nat) (rs : Rows) (es : List Bool) (t u z : Bool) (pr pe : Addr) (rvs : List V) (B : Addr → Prop), vs = [.int (L : Int), .ref pr, .ref pe] ∧ GOk L rs ∧ es.length = rs.length ∧ Cls rs es 400 ∧ GA H L rs t u pr rvs ∧ Sq z H pe (es.map V.bl) ∧ TB B H ∧
  ∀ (H' : Hp) (v : V) (out : Rws) (oe : List Bool), Same H H' → Dt B K H' v (machDt L out oe) → Smallest rs es L out oe → Q v H'
theorem live_lt {rs : Rws} {es : List Bool} {L : Nat} (wide : ∀ r ∈ rs, r.length = L) (el : es.length = rs.length) {s : Nat} (h : Live rs es s) : s < rs.length := by
  obtain ⟨w, hw⟩ := h
  cases w with
  | nil =>
    have hw : es.getD s false = true := hw
    rcases Nat.lt_or_ge s es.length with l | l
    · omega
    · rw [List.getD_eq_getElem?_getD, List.getElem?_eq_none l] at hw
      cases hw
  | cons c w =>
    cases e : nx rs s c with
    | none =>
      rw [acc_none e] at hw
      cases hw
    | some t => exact (nx_lt wide e).1
theorem canon_many {rs : Rws} {es : List Bool} {L : Nat} {ps : List Nat} {out : Rws} {oe : List Bool} (C : Canon rs es L ps out oe) (wide : ∀ r ∈ rs, r.length = L) (el : es.length = rs.length) : (∀ p ∈ ps, p < rs.length) ∧ ps.length ≤ rs.length := by
  have h1 : ∀ p ∈ ps, p < rs.length := fun p hp => live_lt wide el (C.live p hp)
  refine ⟨h1, nodup_len (List.pairwise_iff_getElem.mpr fun i j hi hj l e => ?_) h1⟩
  have := C.one i j _ _ (List.getElem?_eq_getElem hi) (List.getElem?_eq_getElem hj) (by rw [e]; exact Eqv.refl _)
  omega
theorem smallest_len {rs : Rws} {es : List Bool} {L : Nat} {out : Rws} {oe : List Bool} (h : Smallest rs es L out oe) : oe.length = out.length := by
  rcases h with ⟨ps, C⟩ | ⟨_, rfl, rfl⟩
  · rw [C.le, C.lo]
  · rfl
theorem ok_smallG {f fSM : Addr} {fd fdSM : FuncData} (F : Fun K "smallest_graph" "smallest_graph" sSmallG f fd)
    (SM : FnOk P w K mg base CX0 3 fSM fdSM ["rows", "marks", "most"] (spSmallM K)) (FSM : Fun K "smallest_marked" "smallest_marked" sSmallM fSM fdSM) (bSM : Binds K fdSM ["rows", "marks", "most"] []) (gSM : mg "smallest_marked" = some (.ref fSM)) (T : Mg mg) : FnOk P w K mg base CX0 4 f fd ["letters", "rows", "ends"] (spGraph K) := by
  refine F.ok scSmallG (fun vs H Q E h => ?_) (fun cdv A outer s H vs Q E hr h => ?_)
  · obtain ⟨L, rs, es, kt, ku, kz, pr, pe, rvs, B, rfl, _⟩ := h
    rfl
  · obtain ⟨L, rs, es, kt, ku, kz, pr, pe, rvs, B, rfl, M, le, CC, MM, he, tb, k⟩ := h
    obtain ⟨tM, mM⟩ := T.mrows
    have l4 := M.lN
    refine ⟨_, (pss_cons (ps_asg (pe_call SM (hr.mono (by decide)) (by rfl) gSM FSM.kp bSM .nil pass0 (pa_cons (pv 1) (pa_cons (pe_lc (own := [("end", 5)]) (g := gName 5) (tt := tYes) rfl scSmallG.nd (pi_seq (pv 2)) (blkOk_by (N := ["letters", "rows", "ends", "found", "marks", "end", "mark"]) (sc := defScope sSmallG) (by decide +kernel)) (fun _ _ _ _ _ => pg_name (i := 5) scSmallG.nd rfl (Or.inl rfl)) (fun _ _ _ _ _ => pts_nil) (fun _ _ _ _ _ => (pe_ifExp (pt_val (pv 5)) pe_int pe_int))) (pa_cons (pe_glob (v := .int 400) (by rfl) mM ⟨_, rfl⟩) pa_nil)))) (pg_tup rfl (pgs_cons (pg_name (i := 3) scSmallG.nd rfl (.inl rfl)) (pgs_cons (pg_name (i := 4) scSmallG.nd rfl (.inl rfl)) pgs_nil))))
      (pss_one (ps_ret (pe_tup (pa_cons (pv 0) (pa_cons (pv 3) (pa_cons (pe_callTy (r := rTup K) call_tuple_of (by rfl) T.tuple PyProof.Rows.boot_tuple (pa_cons (pe_lc (own := [("mark", 6)]) (g := gName 6) (tt := tYes) rfl scSmallG.nd (pi_tup (pv 4)) (blkOk_by (N := ["letters", "rows", "ends", "found", "marks", "end", "mark"]) (sc := defScope sSmallG) (by decide +kernel)) (fun _ _ _ _ _ => pg_name (i := 6) scSmallG.nd rfl (Or.inl rfl)) (fun _ _ _ _ _ => pts_nil) (fun _ _ _ _ _ => (pe_cmpR op_eq (pv 6) pe_int (nomark _)))) pa_nil)) pa_nil))))))), ?_⟩
    refine ⟨_, rfl, _, rfl, kz, pe, _, rfl, he, fun D hD => ?_⟩
    refine lc_seq (t := kz) (K := K) (a := pe) (xs := es.map V.bl) (NInv (fun b : Bool => natV (b2n b)) es H D) (nstart hD) (fun i H' _ q => he.same q.1) ?_ ?_
    · rintro i x H1 hx p1
      rw [List.getElem?_map] at hx
      obtain ⟨b, hb, rfl⟩ := Option.map_eq_some_iff.mp hx
      refine ⟨rfl, _, rfl, _, rfl, ?_⟩
      cases b with
      | true => exact nturn (f := fun b : Bool => natV (b2n b)) (small9 (by omega)) hD hb p1 (Same.refl _)
      | false => exact nturn (f := fun b : Bool => natV (b2n b)) (small9 (by omega)) hD hb p1 (Same.refl _)
    · rintro H1 p1
      obtain ⟨s1, hl1⟩ := nend (List.length_map _) p1
      have em : es.map (fun b : Bool => natV (b2n b)) = (es.map b2n).map natV := by
        rw [List.map_map]
        rfl
      rw [em] at hl1
      refine ⟨L, 400, rs, es, kt, ku, pr, D, rvs, B, rfl, M, le, CC, MM.same s1, tb_same s1 tb, hl1, fun H2 r p1 p2 out oe s2 hr2 d2 hp2 sm => ?_⟩
      refine ⟨r, _, rfl, .inl hr2, rfl, _, _, rfl, _, _, rfl, rfl, ?_⟩
      refine ⟨_, rfl, _, rfl, _, rfl, p2, rfl, ⟨_, .inl hp2⟩, fun D2 hD2 => ?_⟩
      have ol : oe.length ≤ 200000 := by
        rcases sm with ⟨ps, C⟩ | ⟨_, _, rfl⟩
        · rw [C.le]
          have := (canon_many C M.row le).2
          omega
        · exact (show 1 ≤ 200000 by decide)
      refine lc_tup (K := K) (a := p2) (xs := (oe.map b2n).map natV) (NInv V.bl oe H2 D2) (nstart hD2) (fun i H' _ q => .inl (same_rd q.1 hp2)) ?_ ?_
      · rintro i x H3 hx p3
        rw [List.getElem?_map, List.getElem?_map] at hx
        cases e : oe[i]? with
        | none =>
          rw [e] at hx
          cases hx
        | some b =>
          rw [e] at hx
          cases hx
          refine ⟨rfl, _, rfl, rfl, ?_⟩
          cases b with
          | true => exact nturn (f := V.bl) (small9 (by omega)) hD2 e p3 (Same.refl _)
          | false => exact nturn (f := V.bl) (small9 (by omega)) hD2 e p3 (Same.refl _)
      · rintro H3 p3
        obtain ⟨s3, hl3⟩ := nend (by rw [List.length_map, List.length_map]) p3
        refine ⟨D2, _, rfl, .inl ⟨SqL.of hl3, fun t nt => ?_⟩⟩
        have st := same_new (o := .tup (oe.map V.bl)) nt
        have tb3 := tb_same (s1.trans (s2.trans s3)) tb
        refine ⟨by show 3 ≤ sizeLine; decide, fun u nu => ?_⟩
        have su := same_new (o := .tup [.int (L : Int), .ref p1, .ref t]) nu
        have s3u := s3.trans (st.trans su)
        exact k _ (.ref u) out oe ((s1.trans s2).trans s3u) (.tup (tb_off (tb_same st tb3) nu) (.inl upd_same) (.cons (.int _) (.cons (same_dt s3u d2) (.cons (.tup (tb_off tb3 nt) (same_rd su (.inl upd_same)) (dt_cs (fun x => Dt.bl x) oe)) .nil)))) sm
end
section
variable {P : Program} {w : World} {K : PySem.W.Frag} {mg : Str → Option Value} {base : Heap}
theorem scSmallest : FnScope ["machine", "letters", "rows", "ends"] ["machine"] (defScope sSmallest) := ⟨rfl, rfl, rfl, by decide +kernel, rfl, by decide +kernel, by decide +kernel⟩
def spSmallest (K : PySem.W.Frag) : Sp := fun vs H Q _ => ∃ (L : Nat) (rs : Rows) (es : List Bool) (x : V) (B : Addr → Prop), vs = [x] ∧ Dt B K H x (machDt L rs es) ∧ MOk L rs es ∧ TB B H ∧
  ∀ (H' : Hp) (v : V) (out : Rws) (oe : List Bool), Same H H' → Dt B K H' v (machDt L out oe) → Smallest rs es L out oe → Q v H'
theorem ok_smallest {f fGR : Addr} {fd fdGR : FuncData} (F : Fun K "smallest" "smallest" sSmallest f fd)
    (GR : FnOk P w K mg base CX0 4 fGR fdGR ["letters", "rows", "ends"] (spGraph K)) (FGR : Fun K "smallest_graph" "smallest_graph" sSmallG fGR fdGR) (bGR : Binds K fdGR ["letters", "rows", "ends"] []) (gGR : mg "smallest_graph" = some (.ref fGR)) (T : Mg mg) : FnOk P w K mg base CX0 5 f fd ["machine"] (spSmallest K) := by
  refine F.ok scSmallest (fun vs H Q E h => ?_) (fun cdv A outer s H vs Q E hr h => ?_)
  · obtain ⟨L, rs, es, x, B, rfl, _⟩ := h
    rfl
  · obtain ⟨L, rs, es, x, B, rfl, hd, M, tb, k⟩ := h
    refine ⟨_, (pss_cons (ps_asg (pv 0) (pg_tup rfl (pgs_cons (pg_name (i := 1) scSmallest.nd rfl (.inl rfl)) (pgs_cons (pg_name (i := 2) scSmallest.nd rfl (.inl rfl)) (pgs_cons (pg_name (i := 3) scSmallest.nd rfl (.inl rfl)) pgs_nil)))))
      (pss_one (ps_ret (pe_call GR (hr.mono (by decide)) (by rfl) gGR FGR.kp bGR .nil pass0 (pa_cons (pv 1) (pa_cons (pv 2) (pa_cons (pv 3) pa_nil))))))), ?_⟩
    obtain ⟨m, pr, pe, rvs, rfl, _, MM⟩ := dt_mach hd
    refine ⟨_, rfl, m, _, rfl, .inl MM.hm, rfl, _, _, rfl, _, _, rfl, _, _, rfl, rfl, ?_⟩
    exact ⟨_, rfl, _, rfl, _, rfl, L, rs, es, true, true, true, pr, pe, rvs, B, rfl, M.g, M.es, Cls.own M.g M.l400, MM.ga, MM.he, tb, fun H' v out oe s d sm => k H' v out oe s d sm⟩
end
/-! ### lambdas of parameters, nothing captured, handed to another def -/
open NdefX LamX in
def LmO (f : Addr) (F : NF) (b : Expr) : HO := .ext fun h => ∃ pm ctv : Value, h.get? f = some (PySem.W.kla_obj F.name F.qual F.params b F.scope F.cl pm F.c ctv)
section
open NdefX LamX
variable {X : Cx} {pins : List (Addr × Obj)} {σ : L2.St} {H : Hp} {s : Shared}
theorem lmO_ne {f : Addr} {F : NF} {b : Expr} (ps : Array Value) : LmO f F b ≠ .tbl ps := fun z => by
  unfold LmO at z
  cases z
theorem lmO_at {P : Program} {w : World} {H : Hp} {h : Heap} {f : Addr} {F : NF} {b : Expr} (hok : HOk P w H h) (e : H f = some (LmO f F b)) : ∃ pm ctv : Value, h.get? f = some (PySem.W.kla_obj F.name F.qual F.params b F.scope F.cl pm F.c ctv) := (hok f _ e).1
theorem inv_lam {F : NF} {b : Expr} {t' : Nat} {pm ctv : Value} (I : L2.Inv X pins σ H s) :
    L2.Inv X pins σ (upd H s.heap.objs.size (LmO s.heap.objs.size F b)) { s with heap := s.heap.push (PySem.W.kla_obj F.name F.qual F.params b F.scope F.cl pm F.c ctv), toks := t' } := by
  have e : (s.heap.push (PySem.W.kla_obj F.name F.qual F.params b F.scope F.cl pm F.c ctv)).get? s.heap.objs.size = some (PySem.W.kla_obj F.name F.qual F.params b F.scope F.cl pm F.c ctv) := Heap.get?_push_size _ rfl
  exact I.laid (fun _ _ q => Heap.get?_push_of_some _ q) (Nat.le_refl _) ⟨⟨pm, ctv, e⟩, ⟨_, e⟩, fun h1 h2 ⟨p, t, z⟩ st => ⟨p, t, st _ z⟩⟩
/-- it is made: a new code object in the table of the def, or the one that is there -/
theorem lam_makeN {T : List NTab} {nm : Nat → Nat → Str} {c P : Addr} {params : Arguments} {body : Expr} {scope : Scope} {pos : Pos} {E : Value → Shared → Prop} {Q : Value → Shared → Prop} (I : L2.Inv X pins σ H s) (TB : TabB X.base X.mg c P) (hcode : X.env.code = .ref c)
    (hm : (P, nm) ∈ T) (hn : nm pos.line pos.col = X.env.qual ++ "<lambda>") (hu : ∀ p ∈ T, p.1 = P → p.2 = nm) (hT : TabsN T H) (hdef : defaultsOf params X.env = ([], [])) (hfree : ∀ y ∈ scope.names, y.2 = .free → ∃ c, X.env.cells.lookup y.1 = some c)
    (h : ∀ (f c' : Addr) (H1 : Hp) (s' : Shared), L2.Inv X pins σ H1 s' → ExtN H H1 → TabsN T H1 → H f = none → H1 f = some (LmO f ⟨"<lambda>", X.env.qual ++ "<lambda>", params, [], scope, cloFrom X.env.cells scope.names [], c'⟩ body) →
      H1 c' = some (CodeO c' (X.env.qual ++ "<lambda>")) → Q (.ref f) s') :
    wpAny (model X.prog X.w) X.A (eval (.Lambda params body scope pos) X.env) Q E s := by
  obtain ⟨ps, tabAt, tri, codes⟩ := (show TabN H P nm from hT _ hm)
  refine PySem.W.kla_eval hdef ?_
  have bmAt : s.heap.BuiltinsAt X.mg P := TB.bm.keeps I.bk
  have tabHp : s.heap.get? P = some { cls := .none, data := .fields ps } := I.hok P _ tabAt
  cases q : codeAmong pos ps.toList with
  | some cv =>
    obtain ⟨c', rfl, known⟩ := codes pos cv q
    rw [hn] at known
    refine PySem.W.kla_makeFunctionHit (mg := X.mg) (c := c) (P := P) (ps := ps) (closure_ok hfree) I.ok.glob (I.mod.glob.keeps I.bk) hcode (TB.code.keeps I.bk) tabHp tri q bmAt (fun ctv h1 tk kp _ => ?_)
    have J : L2.Inv X pins σ H { s with heap := h1, toks := tk } := I.kept kp
    have new : H h1.objs.size = none := J.hok.fresh (Nat.le_refl _)
    have stay : ∀ b o, H b = some o → upd H h1.objs.size (LmO h1.objs.size ⟨"<lambda>", X.env.qual ++ "<lambda>", params, [], scope, cloFrom X.env.cells scope.names [], c'⟩ body) b = some o := fun b o e => (upd_ne (ne_of_none e new)).trans e
    exact h h1.objs.size c' _ _ (inv_lam J) (fun b o e _ => stay b o e) (hT.ext stay) new upd_same (stay _ _ known)
  | none =>
    refine PySem.W.kla_makeFunction (mg := X.mg) (c := c) (P := P) (ps := ps) (closure_ok hfree) I.ok.glob (I.mod.glob.keeps I.bk) hcode (TB.code.keeps I.bk) tabHp tri q TB.gP bmAt (fun c' ctv h1 tk kp ge lt made grown => ?_)
    obtain ⟨_, oc, vs, t, e2, hoc, hd, hv⟩ := made
    cases e2
    have newC : H c' = none := I.hok.fresh ge
    have J := inv_table (t' := tk) (more := #[rawInt pos.line, rawInt pos.col, .ref c']) (h' := h1) I tabAt (fun b o nb e => kp b o nb e) grown ge ⟨oc, vs, t, hoc, hd, hv⟩
    generalize hG : upd (upd H P (.tbl (ps ++ #[rawInt pos.line, rawInt pos.col, .ref c']))) c' (CodeO c' (X.env.qual ++ "<lambda>")) = G at J
    have gC : G c' = some (CodeO c' (X.env.qual ++ "<lambda>")) := by rw [← hG]; exact upd_same
    have gP : G P = some (.tbl (ps ++ #[rawInt pos.line, rawInt pos.col, .ref c'])) := by rw [← hG, upd_ne (ne_of_none tabAt newC)]; exact upd_same
    have gO : ∀ b o, b ≠ P → H b = some o → G b = some o := fun b o nb e => by
      rw [← hG, upd_ne (ne_of_none e newC), upd_ne nb]
      exact e
    have ext : ExtN H G := fun b o e nt => gO b o (fun z => nt ps (Option.some.inj (e.symm.trans (by rw [z]; exact tabAt)))) e
    have toL : (ps ++ #[rawInt pos.line, rawInt pos.col, .ref c']).toList = ps.toList ++ [rawInt pos.line, rawInt pos.col, .ref c'] := by simp
    have tabs : TabsN T G := fun p hp => by
      by_cases e : p.1 = P
      · rw [hu p hp e, e]
        refine ⟨_, gP, ?_, fun p' cv hcv => ?_⟩
        · rw [toL]
          exact PySem.TriplesOk_snoc _ _ _ _ tri
        · rw [toL] at hcv
          rcases among_app2 _ tri hcv with z | ⟨z, z1, z2⟩
          · obtain ⟨c0, a1, a2⟩ := codes p' cv z
            exact ⟨c0, a1, ext _ _ a2 codeO_ne⟩
          · exact ⟨c', z, by rw [← z1, ← z2, hn]; exact gC⟩
      · obtain ⟨ps', a1, a2, a3⟩ := hT p hp
        exact ⟨ps', gO _ _ e a1, a2, fun p' cv hcv => let ⟨c0, b1, b2⟩ := a3 p' cv hcv; ⟨c0, b1, ext _ _ b2 codeO_ne⟩⟩
    have new : G h1.objs.size = none := J.hok.fresh (Nat.le_refl _)
    have stay : ∀ b o, G b = some o → upd G h1.objs.size (LmO h1.objs.size ⟨"<lambda>", X.env.qual ++ "<lambda>", params, [], scope, cloFrom X.env.cells scope.names [], c'⟩ body) b = some o := fun b o e => (upd_ne (ne_of_none e new)).trans e
    exact h h1.objs.size c' _ _ (inv_lam J) (fun b o e nt => stay b o (ext b o e nt)) (tabs.ext stay) (I.hok.fresh (Nat.le_trans ge (Nat.le_of_lt lt))) upd_same (stay _ _ gC)
/-- the reading of a lambda -/
def tLamN (T : List NTab) (F : Addr → NF) (b : Expr) : TE := fun _ H Q => TabsN T H ∧ ∀ (f c' : Addr) (H1 : Hp), ExtN H H1 → TabsN T H1 → H f = none → H1 f = some (LmO f (F c') b) → H1 c' = some (CodeO c' (F c').qual) → Q (.ref f) H1
theorem pe_lamN {T : List NTab} {nm : Nat → Nat → Str} {c P : Addr} {params : Arguments} {body : Expr} {scope : Scope} {pos : Pos} (TB : TabB X.base X.mg c P) (hcode : X.env.code = .ref c) (hm : (P, nm) ∈ T) (hn : nm pos.line pos.col = X.env.qual ++ "<lambda>") (hu : ∀ p ∈ T, p.1 = P → p.2 = nm)
    (hdef : defaultsOf params X.env = ([], [])) (nofree : ∀ y ∈ scope.names, y.2 ≠ .free) : PE X (.Lambda params body scope pos) (tLamN T (fun c' => ⟨"<lambda>", X.env.qual ++ "<lambda>", params, [], scope, cloFrom X.env.cells scope.names [], c'⟩) body) := by
  refine ⟨fun pins s σ H Q I h => ?_⟩
  obtain ⟨hT, k⟩ := h
  exact lam_makeN I TB hcode hm hn hu hT hdef (fun y hy e => absurd e (nofree y hy)) fun f c' H1 s' I1 x t1 n a b => ⟨.ref f, H1, I1, rfl, k f c' H1 x t1 n a b⟩
end
/-! ### functions made in a def, handed to another one -/
open NdefX LamX in
/-- the function F at f as it comes into a def: outer are the frames behind it -/
structure CloAt (outer : List Env) (s : Shared) (H : Hp) (F : NF) (f : Addr) (fr : List Str) (ws : List (Option V)) : Prop where
  fn : H f = some (FnO f F)
  cd : H F.c = some (CodeO F.c F.qual)
  cells : CellsAt F.cl fr ws s.heap H
  nf : ∀ y c, F.cl.lookup y = some c → c ∉ frs outer
section
open NdefX LamX
variable {P : Program} {w : World} {K : PySem.W.Frag} {mg : Str → Option Value} {base : Heap}
/-- a promise that speaks of the heap itself and of the frames behind -/
def CRun (P : Program) (w : World) (K : PySem.W.Frag) (mg : Str → Option Value) (base : Heap) (k : Nat) (f : Addr) (fd : FuncData) (ps : List Str) (sp : Shared → List Env → Sp) : Prop :=
  ∀ (A : Around) (outer : List Env) (s : Shared) (H : Hp) (us : List Value) (vs : List V) (Q : VK),
    Room k A → Env0 P w K mg base A outer s H → BindsTo s fd ⟨us, []⟩ (ps.zip us) → Vals vs us → vs.length = ps.length → sp s outer vs H Q E0 →
    codeAny (model P w) A (.call (.ref f) ⟨us, []⟩) (CR CX0 outer P w H s Q E0) s
theorem crun {x qual : Str} {st : Stmt} {f : Addr} {fd : FuncData} {N ps : List Str} {k : Nat} {sp : Shared → List Env → Sp} (F : Fun K x qual st f fd) (S : FnScope N ps (defScope st))
    (body : ∀ (cdv : Value) (A : Around) (outer : List Env) (s : Shared) (H : Hp) (vs : List V) (Q : VK), Room k (A.deeper (envOfC qual (defScope st) s.heap.objs.size f cdv)) → sp s outer vs H Q E0 →
      ∃ t, PSs (cxOf CX0 P w K mg base N qual (defScope st) f cdv A outer s H E0).nox (defBody st) t ∧ t { nx := fun _ H' => Q .non H', rt := Q } (start N vs) H) :
    CRun P w K mg base (k + 1) f fd ps sp := by
  obtain ⟨oc, od, kV, doc, pm, an, cdv, ct, osl, rfl, lk, hcd⟩ := F.ex
  intro A outer s H us vs Q hr e0 hb r hl hsp
  have inK : K.In s.heap := e0.mod.kin.keeps (fun b o q => (e0.bs b o q).1)
  have noL : s.heap.NoLimit := e0.mod.nolimit.keeps (fun b o q => (e0.bs b o q).1)
  have kinds : ∀ y ∈ ps.zip us, (defScope st).names.lookup y.1 = some .local ∨ ((defScope st).names.lookup y.1 = some .cell ∧ ((cellsFrom (s.heap.objs.size + 1) (defScope st).names []).lookup y.1).isSome = true) := by
    intro y hy
    obtain ⟨n, v⟩ := y
    cases S.par n (List.of_mem_zip hy).1 with
    | inl q => exact Or.inl q
    | inr q => exact Or.inr ⟨q, PySem.W.cellsFrom_some _ _ _ (Or.inl q)⟩
  refine codeAny_call_function hr.depth (inK _ _ lk) rfl S.co S.gen rfl (PySem.W.codeRec_of inK hcd) (hb _ _ _ _ ?_)
  refine wpAny_newFunctionEnv_cells S.kind kinds (fun env he s1 x => ?_)
  cases he
  obtain ⟨t, ht, hq⟩ := body cdv A outer s H vs Q (hr.deeper _) hsp
  have J := inv_start (CX := CX0) (mg := mg) (E := E0) S hr.hd e0 hl r x
  refine ⟨noL.keeps x.toInCall.keep, codeAny_func (wpAny_mono (ht.nox.run [] s1 (start N vs) H _ J hq) ?_ (fun e s' z => z))⟩
  intro fl s' z
  cases fl with
  | next =>
    obtain ⟨_, H', J', q⟩ := z
    exact ⟨.non, H', J'.os, J'.bare, J'.base, J'.hok, rfl, q⟩
  | ret u =>
    obtain ⟨v, _, H', J', rv, q⟩ := z
    exact ⟨v, H', J'.os, J'.bare, J'.base, J'.hok, rv, q⟩
  | brk => exact (z.choose_spec.choose_spec.2).elim
  | cont => exact (z.choose_spec.choose_spec.2).elim
end
section
open NdefX LamX
variable {X : Cx} {k j i : Nat} {f : Addr} {fd : FuncData} {sp : Shared → List Env → Sp} {x : Str} {p pos : Pos} {e : Expr} {es : List Expr} {t : TA} {ps fr : List Str} {F : NF} {ws : List (Option V)} {E : XK}
/-- f(e, ..), where functions that the running def made are handed on: what holds of each of them -/
def tCallC (X : Cx) (sp : Shared → List Env → Sp) (n : Nat) (t : TA) : TE := fun σ H Q => t σ H fun vs H1 => vs.length = n ∧
  ∀ (s : Shared) (outer : List Env), (∀ (F : NF) (g : Addr) (fr : List Str) (js : List Nat), (X.Ok → Caps X F.cl fr js) → H1 g = some (FnO g F) → H1 F.c = some (CodeO F.c F.qual) → CloAt outer s H1 F g fr (js.map (slotAt σ))) → sp s outer vs H1 Q E0
theorem pe_callC (R : CRun X.prog X.w X.K X.mg X.base k f fd ps sp) (hfn : ∀ y, X.fn y = true) (hr : Room k X.A) (hg : Gl X x) (hm : X.mg x = some (.ref f)) (hk : PySem.W.keepIn X.K (.ref f) = true) (hb : Binds X.K fd ps [])
    (ha : PA X (e :: es) t) (hdb : (x == ("__debug__" : Str)) = false := by decide) (he : starEach (e :: es) X.env = (false, eval e X.env) :: starEach es X.env := by rfl) (hpl : (backTo pos (starEach es X.env)).any (·.1) = false := by rfl) :
    PE X (.Call (.Name x p) (e :: es) [] pos) (tCallC X sp ps.length t) := by
  refine ⟨fun pins s σ H Q I h => ?_⟩
  refine wpAny_Call_Name_kw (ld_glob I hg hm ?_ hdb)
  refine PySem.W.callWith_K (h₀ := X.base) I.ok.mod.kin hk (thn (ha.run pos pins s σ H _ I h) fun us s1 ⟨vs, H1, I1, r, hl, q⟩ => ⟨I1.kIn, ?_⟩) he hpl
  have bd := hb s1 us I1.kIn (by rw [List.append_nil, ← r.length]; exact hl)
  rw [List.append_nil] at bd
  have q' := q s1 X.stack fun F g fr js cp hg' hcd => ⟨hg', hcd, cells_of I1 (cp I1.ok), fun y c hc hb' => by
    have hx := (cp I1.ok).sub y c hc
    rcases List.mem_cons.mp (I1.stkSub c hb') with z | z
    · exact I1.cne y c hx z
    · obtain ⟨_, o, ho, _⟩ := I1.ok.funs.mem z
      exact absurd (Nat.lt_of_lt_of_le (Heap.lt_size ho) (I1.ok.cab y c (hfn y) hx)) (Nat.lt_irrefl _)⟩
  refine wpAny_call (codeAny_mono (R X.A X.stack s1 H1 us vs Q hr I1.env0 bd r hl q') fun r s' hq => ?_)
  cases r with
  | error e => exact hq.elim
  | ok fl =>
    cases fl with
    | ret u => exact I1.after hq
    | next => exact False.elim hq
    | brk => exact False.elim hq
    | cont => exact False.elim hq
/-- g(e, ..), g a name that holds a function that came into the def -/
def tCallH (F : NF) (i : Nat) (f : Addr) (ws : List (Option V)) (sp : List (Option V) → Sp) (t : TA) : TE := fun σ H Q => σ[i]? = some (some (.ref f)) ∧ H f = some (FnO f F) ∧
  t σ H fun vs H1 => H1 f = some (FnO f F) ∧ H1 F.c = some (CodeO F.c F.qual) ∧ sp ws vs H1 Q E0
theorem pe_callH {sp : List (Option V) → Sp} (Fn : NOk X.prog X.w X.K X.mg X.base CX0 k f F ps fr sp) (C : CloAt X.outer X.s_0 X.H_0 F f fr ws) (hex : X.ex = []) (hr : Room j X.A) (hk : k ≤ j) (hN : X.N[i]? = some x) (hv : Vis X.env.scope x) (ha : PA X (e :: es) t)
    (hd : (x == ("__debug__" : Str)) = false := by decide) (hcd : (x == ("__classdict__" : Str)) = false := by decide)
    (he : starEach (e :: es) X.env = (false, eval e X.env) :: starEach es X.env := by rfl) (hpl : (backTo pos (starEach es X.env)).any (·.1) = false := by rfl) :
    PE X (.Call (.Name x p) (e :: es) [] pos) (tCallH F i f ws sp t) := by
  refine ⟨fun pins s σ H Q I h => ?_⟩
  obtain ⟨hs, hf, ht⟩ := h
  refine wpAny_Call_Name_kw (thn ((pe_var (pos := p) hN hv hd hcd).run pins s σ H (fun v H1 => v = .ref f ∧ H1 = H) I ⟨.ref f, hs, rfl, rfl⟩) fun u s1 ⟨v, H1, I1, r1, q1⟩ => ?_)
  obtain ⟨ev, eH⟩ := q1
  subst ev
  rw [eH] at I1
  obtain rfl : u = Value.ref f := r1
  refine PySem.W.callWith_F (first := []) (fnAt_of I1 hf) (thn (ha.run pos pins s1 σ H _ I1 ht) fun us s2 ⟨vs, H2, I2, r, h1, h2, q⟩ => ⟨fnAt_of I2 h1, ?_⟩) he hpl
  show wpAny _ _ (call (.ref f) us) _ _ _
  have C2 := C.cells.later C.nf (fun y c _ z => by rw [hex] at z; exact List.not_mem_nil z) I2
  refine wpAny_call (codeAny_mono (Fn.run X.A X.stack s2 H2 us vs ws Q E0 (hr.mono hk) I2.env0 h1 h2 C2 r q) fun r s' hq => ?_)
  cases r with
  | error e => exact pass0 pins σ H2 s2 e s' I2 hq
  | ok fl =>
    cases fl with
    | ret u => exact I2.after hq
    | next => exact False.elim hq
    | brk => exact False.elim hq
    | cont => exact False.elim hq
end
/-! ### first words: words are told from their end, c :: u is u and then c -/
def Sl : List Nat → List Nat → Prop
  | [], [] => False
  | [], _ :: _ => True
  | _ :: _, [] => False
  | c :: u, d :: w => Sl u w ∨ (u = w ∧ c < d)
theorem sl_irr : ∀ u : List Nat, ¬ Sl u u
  | [], h => h
  | c :: u, h => by
    rcases h with h | ⟨_, h⟩
    · exact sl_irr u h
    · omega
theorem sl_trans : ∀ {u v w : List Nat}, Sl u v → Sl v w → Sl u w
  | [], [], _, h, _ => h.elim
  | [], _ :: _, [], _, h => h.elim
  | [], _ :: _, _ :: _, _, _ => trivial
  | _ :: _, [], _, h, _ => h.elim
  | _ :: _, _ :: _, [], _, h => h.elim
  | c :: u, d :: v, e :: w, h, g => by
    rcases h with h | ⟨h, h2⟩
    · rcases g with g | ⟨g, _⟩
      · exact .inl (sl_trans h g)
      · exact .inl (g ▸ h)
    · rcases g with g | ⟨g, g2⟩
      · exact .inl (h ▸ g)
      · exact .inr ⟨h.trans g, by omega⟩
theorem sl_tri : ∀ u w : List Nat, Sl u w ∨ u = w ∨ Sl w u
  | [], [] => .inr (.inl rfl)
  | [], _ :: _ => .inl trivial
  | _ :: _, [] => .inr (.inr trivial)
  | c :: u, d :: w => by
    rcases sl_tri u w with h | h | h
    · exact .inl (.inl h)
    · subst h
      rcases Nat.lt_trichotomy c d with l | l | l
      · exact .inl (.inr ⟨rfl, l⟩)
      · subst l
        exact .inr (.inl rfl)
      · exact .inr (.inr (.inr ⟨rfl, l⟩))
    · exact .inr (.inr (.inl h))
theorem sl_cons : ∀ (u : List Nat) (d : Nat), Sl u (d :: u)
  | [], _ => trivial
  | x :: u, _ => .inl (sl_cons u x)
def Wl (L : Nat) (u : List Nat) : Prop := ∀ c ∈ u, c < L
def First (p : List Nat → Prop) (L : Nat) : Option (List Nat) → Prop
  | none => ∀ u, Wl L u → ¬ p u
  | some u => Wl L u ∧ p u ∧ ∀ u', Wl L u' → Sl u' u → ¬ p u'
theorem first_eq {p : List Nat → Prop} {L : Nat} : ∀ {o o' : Option (List Nat)}, First p L o → First p L o' → o = o'
  | none, none, _, _ => rfl
  | none, some u, h, g => absurd g.2.1 (h u g.1)
  | some u, none, h, g => absurd h.2.1 (g u h.1)
  | some u, some w, h, g => by
    rcases sl_tri u w with q | q | q
    · exact absurd h.2.1 (g.2.2 u h.1 q)
    · rw [q]
    · exact absurd g.2.1 (h.2.2 w g.1 q)
theorem First.imp {p q : List Nat → Prop} {L : Nat} (e : ∀ u, Wl L u → (p u ↔ q u)) : ∀ {o : Option (List Nat)}, First p L o → First q L o
  | none, h => fun u hu z => h u hu ((e u hu).mpr z)
  | some u, h => ⟨h.1, (e u h.1).mp h.2.1, fun w hw s z => h.2.2 w hw s ((e w hw).mpr z)⟩
def walkr (gt : Nat → Nat → Nat) (v0 : Nat) : List Nat → Nat
  | [] => v0
  | c :: u => gt (walkr gt v0 u) c
/-- a search layer by layer: nodes with their words, in the order in which they came; p is looked from, by its letter c -/
structure Bfs (gt : Nat → Nat → Nat) (wt : Nat → Bool) (L v0 : Nat) (nodes : List Nat) (reps : List (List Nat)) (p c : Nat) : Prop where
  ln : nodes.length = reps.length
  nd : nodes.Nodup
  zn : nodes[0]? = some v0
  zr : reps[0]? = some []
  wk : ∀ (i v : Nat) (r : List Nat), nodes[i]? = some v → reps[i]? = some r → walkr gt v0 r = v ∧ Wl L r
  no : ∀ v ∈ nodes, wt v = false
  srt : reps.Pairwise Sl
  org : ∀ (j : Nat) (r : List Nat), 1 ≤ j → reps[j]? = some r → ∃ (i c' : Nat) (r' : List Nat), reps[i]? = some r' ∧ r = c' :: r' ∧ c' < L ∧ (i < p ∨ (i = p ∧ c' < c))
  cov : ∀ (i c' v : Nat) (r : List Nat), nodes[i]? = some v → reps[i]? = some r → c' < L → (i < p ∨ (i = p ∧ c' < c)) → ∃ (j : Nat) (r' : List Nat), nodes[j]? = some (gt v c') ∧ reps[j]? = some r' ∧ (Sl r' (c' :: r) ∨ r' = c' :: r)
section
variable {gt : Nat → Nat → Nat} {wt : Nat → Bool} {L v0 : Nat} {nodes : List Nat} {reps : List (List Nat)} {p c : Nat}
theorem bfs_start (h : wt v0 = false) : Bfs gt wt L v0 [v0] [[]] 0 0 where
  ln := rfl
  nd := List.nodup_cons.mpr ⟨List.not_mem_nil, List.nodup_nil⟩
  zn := rfl
  zr := rfl
  wk := fun i v r h1 h2 => by
    cases i with
    | zero =>
      cases h1
      cases h2
      exact ⟨rfl, fun c hc => absurd hc List.not_mem_nil⟩
    | succ i => cases h1
  no := fun v hv => by
    rw [List.mem_singleton.mp hv]
    exact h
  srt := List.pairwise_singleton _ _
  org := fun j r h1 h2 => by
    cases j with
    | zero => omega
    | succ j => cases h2
  cov := fun i c' v r _ _ _ h => by omega
theorem sl_at (h : reps.Pairwise Sl) {i j : Nat} {a b : List Nat} (hi : reps[i]? = some a) (hj : reps[j]? = some b) (l : i < j) : Sl a b := by
  have l1 := List.getElem?_eq_some_iff.mp hi
  have l2 := List.getElem?_eq_some_iff.mp hj
  have := List.pairwise_iff_getElem.mp h i j l1.1 l2.1 l
  rw [l1.2, l2.2] at this
  exact this
/-- what is there comes before what is found now -/
theorem Bfs.below (h : Bfs gt wt L v0 nodes reps p c) {rp : List Nat} (hp : reps[p]? = some rp) {j : Nat} {r : List Nat} (hj : reps[j]? = some r) : Sl r (c :: rp) := by
  by_cases z : j = 0
  · subst z
    rw [h.zr] at hj
    cases hj
    exact trivial
  · obtain ⟨i, c', r', h1, rfl, _, h3⟩ := h.org j r (by omega) hj
    rcases h3 with h3 | ⟨h3, h4⟩
    · exact .inl (sl_at h.srt h1 hp h3)
    · subst h3
      rw [hp] at h1
      cases h1
      exact .inr ⟨rfl, h4⟩
theorem Bfs.skip (h : Bfs gt wt L v0 nodes reps p c) {vp : Nat} (hv : nodes[p]? = some vp) (hc : c < L) (hin : gt vp c ∈ nodes) : Bfs gt wt L v0 nodes reps p (c + 1) where
  ln := h.ln
  nd := h.nd
  zn := h.zn
  zr := h.zr
  wk := h.wk
  no := h.no
  srt := h.srt
  org := fun j r h1 h2 => by
    obtain ⟨i, c', r', a1, a2, a3, a4⟩ := h.org j r h1 h2
    exact ⟨i, c', r', a1, a2, a3, by omega⟩
  cov := fun i c' v r h1 h2 h3 h4 => by
    by_cases z : i < p ∨ (i = p ∧ c' < c)
    · exact h.cov i c' v r h1 h2 h3 z
    · have e1 : i = p := by omega
      have e2 : c' = c := by omega
      subst e1
      subst e2
      rw [hv] at h1
      cases h1
      obtain ⟨j, hj⟩ := List.mem_iff_getElem?.mp hin
      have jl := (List.getElem?_eq_some_iff.mp hj).1
      have hr : reps[j]? = some (reps[j]'(by rw [← h.ln]; exact jl)) := List.getElem?_eq_getElem _
      exact ⟨j, _, hj, hr, .inl (h.below h2 hr)⟩
theorem Bfs.add (h : Bfs gt wt L v0 nodes reps p c) {vp : Nat} {rp : List Nat} (hv : nodes[p]? = some vp) (hp : reps[p]? = some rp) (hc : c < L) (hn : gt vp c ∉ nodes) (hw : wt (gt vp c) = false) : Bfs gt wt L v0 (nodes ++ [gt vp c]) (reps ++ [c :: rp]) p (c + 1) := by
  have pl := (List.getElem?_eq_some_iff.mp hp).1
  have ln := h.ln
  have low : ∀ {α : Type} {xs : List α} {x y : α} {i : Nat}, xs[i]? = some y → (xs ++ [x])[i]? = some y := fun {α xs x y i} e => by
    rw [List.getElem?_append_left (List.getElem?_eq_some_iff.mp e).1]
    exact e
  have snoc : ∀ {α : Type} {r : List α} {x y : α} {i : Nat}, (r ++ [x])[i]? = some y → r[i]? = some y ∨ (i = r.length ∧ y = x) := fun {α r x y i} h => by
    rcases Nat.lt_or_ge i r.length with l | l
    · rw [List.getElem?_append_left l] at h
      exact .inl h
    · have l2 := (List.getElem?_eq_some_iff.mp h).1
      rw [List.length_append, List.length_singleton] at l2
      rw [List.getElem?_append_right l, show i - r.length = 0 by omega] at h
      exact .inr ⟨by omega, (Option.some.inj h).symm⟩
  refine ⟨by rw [List.length_append, List.length_append, ln]; rfl, ?_, low h.zn, low h.zr, fun i v r h1 h2 => ?_, fun v hv' => ?_, ?_, fun j r h1 h2 => ?_, fun i c' v r h1 h2 h3 h4 => ?_⟩
  · rw [List.nodup_append]
    exact ⟨h.nd, List.nodup_cons.mpr ⟨List.not_mem_nil, List.nodup_nil⟩, fun x hx y hy e => hn (by rw [← List.mem_singleton.mp hy, ← e]; exact hx)⟩
  · rcases snoc h1 with a | ⟨a1, a2⟩
    · rcases snoc h2 with b | ⟨b1, _⟩
      · exact h.wk i v r a b
      · have := (List.getElem?_eq_some_iff.mp a).1
        omega
    · rcases snoc h2 with b | ⟨_, b2⟩
      · have := (List.getElem?_eq_some_iff.mp b).1
        omega
      · rw [a2, b2]
        obtain ⟨w1, w2⟩ := h.wk p vp rp hv hp
        exact ⟨by show gt (walkr gt v0 rp) c = gt vp c; rw [w1], fun d hd => (List.mem_cons.mp hd).elim (fun z => z ▸ hc) (w2 d)⟩
  · rcases List.mem_append.mp hv' with z | z
    · exact h.no v z
    · rw [List.mem_singleton.mp z]
      exact hw
  · refine List.pairwise_append.mpr ⟨h.srt, List.pairwise_singleton _ _, fun a ha b hb => ?_⟩
    rw [List.mem_singleton.mp hb]
    obtain ⟨j, hj⟩ := List.mem_iff_getElem?.mp ha
    exact h.below hp hj
  · rcases snoc h2 with b | ⟨_, b2⟩
    · obtain ⟨i, c', r', a1, a2, a3, a4⟩ := h.org j r h1 b
      exact ⟨i, c', r', low a1, a2, a3, by omega⟩
    · exact ⟨p, c, rp, low hp, b2, hc, by omega⟩
  · rcases snoc h1 with a | ⟨a1, a2⟩
    · rcases snoc h2 with b | ⟨b1, _⟩
      · by_cases z : i < p ∨ (i = p ∧ c' < c)
        · obtain ⟨j, r', e1, e2, e3⟩ := h.cov i c' v r a b h3 z
          exact ⟨j, r', low e1, low e2, e3⟩
        · have e1 : i = p := by omega
          have e2 : c' = c := by omega
          subst e1
          subst e2
          rw [hv] at a
          cases a
          rw [hp] at b
          cases b
          refine ⟨nodes.length, c' :: rp, ?_, ?_, .inr rfl⟩
          · rw [List.getElem?_append_right (Nat.le_refl _), Nat.sub_self]
            rfl
          · rw [List.getElem?_append_right (by omega), show nodes.length - reps.length = 0 by omega]
            rfl
      · have := (List.getElem?_eq_some_iff.mp a).1
        omega
    · omega
theorem Bfs.next (h : Bfs gt wt L v0 nodes reps p c) (hc : L ≤ c) : Bfs gt wt L v0 nodes reps (p + 1) 0 where
  ln := h.ln
  nd := h.nd
  zn := h.zn
  zr := h.zr
  wk := h.wk
  no := h.no
  srt := h.srt
  org := fun j r h1 h2 => by
    obtain ⟨i, c', r', a1, a2, a3, a4⟩ := h.org j r h1 h2
    exact ⟨i, c', r', a1, a2, a3, by omega⟩
  cov := fun i c' v r h1 h2 h3 h4 => h.cov i c' v r h1 h2 h3 (by omega)
/-- words that come before what is looked at are led to nodes that are there -/
theorem Bfs.all (h : Bfs gt wt L v0 nodes reps p c) {rp : List Nat} (hp : reps[p]? = some rp) : ∀ u, Wl L u → Sl u (c :: rp) → ∃ (j : Nat) (r : List Nat), nodes[j]? = some (walkr gt v0 u) ∧ reps[j]? = some r ∧ (Sl r u ∨ r = u)
  | [], _, _ => ⟨0, [], h.zn, h.zr, .inr rfl⟩
  | d :: u, hu, hs => by
    have hu' : Wl L u := fun x hx => hu x (List.mem_cons_of_mem _ hx)
    have hd : d < L := hu d List.mem_cons_self
    have su : Sl u (c :: rp) := by
      exact sl_trans (sl_cons u d) hs
    obtain ⟨j, r, h1, h2, h3⟩ := h.all hp u hu' su
    have jx : j < p ∨ (j = p ∧ d < c) := by
      rcases hs with hs | ⟨hs, hs2⟩
      · have rp_ : Sl r rp := by
          rcases h3 with h3 | h3
          · exact sl_trans h3 hs
          · rw [h3]
            exact hs
        rcases Nat.lt_trichotomy j p with l | l | l
        · exact .inl l
        · subst l
          rw [hp] at h2
          cases h2
          exact absurd rp_ (sl_irr _)
        · exact absurd (sl_trans rp_ (sl_at h.srt hp h2 l)) (sl_irr _)
      · rcases Nat.lt_trichotomy j p with l | l | l
        · exact .inl l
        · exact .inr ⟨l, hs2⟩
        · have a := sl_at h.srt hp h2 l
          rw [← hs] at a
          rcases h3 with h3 | h3
          · exact absurd (sl_trans a h3) (sl_irr _)
          · rw [h3] at a
            exact absurd a (sl_irr _)
    obtain ⟨j2, r2, e1, e2, e3⟩ := h.cov j d _ r h1 h2 hd jx
    refine ⟨j2, r2, e1, e2, ?_⟩
    have le : Sl (d :: r) (d :: u) ∨ d :: r = d :: u := by
      rcases h3 with h3 | h3
      · exact .inl (.inl h3)
      · exact .inr (by rw [h3])
    rcases e3 with e3 | e3
    · rcases le with le | le
      · exact .inl (sl_trans e3 le)
      · exact .inl (le ▸ e3)
    · rw [e3]
      exact le
/-- the first word -/
theorem Bfs.found (h : Bfs gt wt L v0 nodes reps p c) {vp : Nat} {rp : List Nat} (hv : nodes[p]? = some vp) (hp : reps[p]? = some rp) (hc : c < L) (hw : wt (gt vp c) = true) : First (fun u => wt (walkr gt v0 u) = true) L (some (c :: rp)) := by
  obtain ⟨w1, w2⟩ := h.wk p vp rp hv hp
  refine ⟨fun d hd => (List.mem_cons.mp hd).elim (fun z => z ▸ hc) (w2 d), ?_, fun u hu s z => ?_⟩
  · show wt (gt (walkr gt v0 rp) c) = true
    rw [w1]
    exact hw
  · obtain ⟨j, r, h1, _, _⟩ := h.all hp u hu s
    have z : wt (walkr gt v0 u) = true := z
    have := h.no _ (List.mem_of_getElem? h1)
    rw [this] at z
    cases z
/-- no word at all -/
theorem Bfs.none_ (h : Bfs gt wt L v0 nodes reps p 0) (hp : nodes.length ≤ p) : First (fun u => wt (walkr gt v0 u) = true) L none := fun u hu z => by
  have key : ∀ u, Wl L u → walkr gt v0 u ∈ nodes := by
    intro u
    induction u with
    | nil => exact fun _ => List.mem_of_getElem? h.zn
    | cons d u ih =>
      intro hu
      obtain ⟨j, hj⟩ := List.mem_iff_getElem?.mp (ih fun x hx => hu x (List.mem_cons_of_mem _ hx))
      have jl := (List.getElem?_eq_some_iff.mp hj).1
      obtain ⟨j2, _, e1, _, _⟩ := h.cov j d _ _ hj (List.getElem?_eq_getElem (show j < reps.length by rw [← h.ln]; exact jl)) (hu d List.mem_cons_self) (.inl (by omega))
      exact List.mem_of_getElem? e1
  have z : wt (walkr gt v0 u) = true := z
  have := h.no _ (key u hu)
  rw [this] at z
  cases z
theorem Bfs.len (h : Bfs gt wt L v0 nodes reps p c) : ∀ (j : Nat) (r : List Nat), reps[j]? = some r → r.length ≤ j := by
  intro j
  induction j using Nat.strongRecOn with
  | ind j ih =>
    intro r hr
    by_cases z : j = 0
    · subst z
      rw [h.zr] at hr
      cases hr
      exact Nat.le_refl _
    · obtain ⟨i, c', r', h1, rfl, _, _⟩ := h.org j r (by omega) hr
      have ij : i < j := by
        rcases Nat.lt_trichotomy i j with l | l | l
        · exact l
        · subst l
          rw [h1] at hr
          have := congrArg List.length (Option.some.inj hr)
          rw [List.length_cons] at this
          omega
        · exact absurd (sl_trans (sl_at h.srt hr h1 l) (sl_cons r' c')) (sl_irr _)
      have := ih i ij r' h1
      rw [List.length_cons]
      omega
end
/-! ### texts of letters -/
def mkS (cs : List Nat) : Str := ⟨cs.toArray⟩
theorem tl_mkS (cs : List Nat) : TL.tl (mkS cs) = cs := rfl
theorem mkS_tl (z : Str) : mkS (TL.tl z) = z := TL.ext_tl rfl
theorem mkS_len (cs : List Nat) : (mkS cs).length = cs.length := TL.len_tl _
theorem mkS_add (a b : List Nat) : mkS a ++ mkS b = mkS (a ++ b) := TL.ext_tl (by rw [TL.tl_append]; rfl)
def sgV (c : Nat) : V := .str ⟨#[c]⟩
def rJoin (K : PySem.W.Frag) : V → List V → Hp → VK → Prop := fun x xs H Q => ∃ a p, ∃ ys : List Str, x = .str a ∧ xs = [.ref p] ∧ (SqL K H p (ys.map V.str) ∨ SqT K H p (ys.map V.str)) ∧ (ys.map (·.length)).sum + ys.length * a.length ≤ 16777216 ∧ Q (.str (Txt.join a ys)) H
theorem join_sg (cs : List Nat) : Txt.join "" (cs.map fun c => (⟨#[c]⟩ : Str)) = mkS cs := by
  rw [TL.join_eq]
  refine TL.ext_tl ?_
  rw [TL.tl_join]
  have e : ∀ cs : List Nat, TL.joinL [] ((cs.map fun c => (⟨#[c]⟩ : Str)).map TL.tl) = cs := fun cs => by
    induction cs with
    | nil => rfl
    | cons c cs ih =>
      cases cs with
      | nil => rfl
      | cons e cs =>
        show [c] ++ ([] ++ TL.joinL [] (((e :: cs).map fun c => (⟨#[c]⟩ : Str)).map TL.tl)) = _
        rw [ih]
        rfl
  exact e cs
theorem sg_map (cs : List Nat) : cs.map sgV = (cs.map fun c => (⟨#[c]⟩ : Str)).map V.str := by
  rw [List.map_map]
  rfl
theorem sg_sum (cs : List Nat) : ((cs.map fun c => (⟨#[c]⟩ : Str)).map (·.length)).sum = cs.length := by
  induction cs with
  | nil => rfl
  | cons c cs ih =>
    rw [List.map_cons, List.map_cons, List.sum_cons, ih, List.length_cons, Nat.add_comm]
    rfl
/-- the text of a word that is told from its end -/
def txR (u : List Nat) : Str := mkS (u.reverse.map (97 + ·))
def txO : Option (List Nat) → V
  | none => .non
  | some u => .str (txR u)
/-- a list that hides the heap -/
def tLstA (t : TA) : TE := fun σ H Q => t σ H fun xs H1 => xs.length ≤ sizeLine ∧ ∀ p H', Same H1 H' → H1 p = none → p ≠ sysModules → H' p = some (.lst xs) → Q (.ref p) H'
section
variable {X : Cx}
theorem pe_lstA {es : List Expr} {t : TA} {pos : Pos} (ht : PA X es t) : PE X (.List es pos) (tLstA t) := by
  refine ⟨fun pins s σ H Q I h => wpAny_List_spliced (thn (ht.run pos pins s σ H _ I h) ?_)⟩
  rintro us s1 ⟨xs, H1, I1, r, hz, q⟩
  have hl := r.length
  have np := I1.hok.fresh (Nat.le_refl s1.heap.objs.size)
  exact ⟨by rw [← hl]; exact hz, .ref s1.heap.objs.size, _, I1.laid (o := .lst xs) (t' := s1.toks) (fun b u e => Heap.get?_push_of_some _ e) (Nat.le_refl _) ⟨hz, us, 0, r, Heap.get?_push_size _ rfl⟩, rfl, q _ _ (same_new np) np (Nat.ne_of_gt I1.big) upd_same⟩
end
/-! ### dicts that tell what is in them -/
section
variable {α κ : Type} [DecidableEq α] [DecidableEq κ] {f : α → κ}
def opG (f : α → κ) (ks : List α) : List (κ × V) := ks.map fun s => (f s, V.bl true)
theorem og_no {ks : List α} {k : α} (inj : ∀ a b, f a = f b → a = b) (h : k ∉ ks) : ∀ x ∈ opG f ks, ¬ (decide (x.1 = f k) = true) := fun x hx e => by
  obtain ⟨p, hp, rfl⟩ := List.mem_map.mp hx
  exact h (inj _ _ (of_decide_eq_true e) ▸ hp)
theorem og_val (inj : ∀ a b, f a = f b → a = b) : ∀ (ks : List α) (k : α), valV (opG f ks) (f k) = if k ∈ ks then some (.bl true) else none
  | [], k => rfl
  | p :: ks, k => by
    unfold valV opG
    rw [List.map_cons]
    by_cases e : p = k
    · subst e
      rw [List.find?_cons_of_pos (by exact decide_eq_true rfl), if_pos List.mem_cons_self]
      rfl
    · rw [List.find?_cons_of_neg (by rw [decide_eq_true_eq]; exact fun z => e (inj _ _ z))]
      have ih := og_val inj ks k
      unfold valV opG at ih
      rw [ih]
      by_cases m : k ∈ ks
      · rw [if_pos m, if_pos (List.mem_cons_of_mem _ m)]
      · rw [if_neg m, if_neg (fun z => by
          rcases List.mem_cons.mp z with z | z
          · exact e z.symm
          · exact m z)]
theorem og_some (inj : ∀ a b, f a = f b → a = b) (ks : List α) (k : α) : (valV (opG f ks) (f k)).isSome = decide (k ∈ ks) := by
  rw [og_val inj]
  by_cases m : k ∈ ks
  · rw [if_pos m, decide_eq_true m]
    rfl
  · rw [if_neg m, decide_eq_false m]
    rfl
theorem og_put {ks : List α} {k : α} (inj : ∀ a b, f a = f b → a = b) (h : k ∉ ks) : putK (opG f ks) (f k) (.bl true) = opG f (ks ++ [k]) := by
  unfold putK
  rw [if_neg (fun z => by
    obtain ⟨x, hx, e⟩ := List.any_eq_true.mp z
    exact og_no inj h x hx e)]
  unfold opG
  rw [List.map_append]
  rfl
theorem og_len {ks : List α} : (opG f ks).length = ks.length := List.length_map _
end
abbrev opK (ks : List Nat) : List (Key × V) := opG (fun s : Nat => (.inl (s : Int) : Key)) ks
abbrev hpK (ps : List (Nat × Nat)) : List (List Key × V) := opG (fun p : Nat × Nat => ([.inl (p.1 : Int), .inl (p.2 : Int)] : List Key)) ps
theorem opI : ∀ a b : Nat, (.inl (a : Int) : Key) = .inl (b : Int) → a = b := fun a b e => by
  have := Sum.inl.inj e
  omega
theorem hpI : ∀ a b : Nat × Nat, ([.inl (a.1 : Int), .inl (a.2 : Int)] : List Key) = [.inl (b.1 : Int), .inl (b.2 : Int)] → a = b := fun a b e => by
  have h1 := List.cons.inj e
  have h2 := List.cons.inj h1.2
  exact Prod.ext (opI _ _ h1.1) (opI _ _ h2.1)
theorem opK_merge : ∀ (more ks : List Nat), (ks ++ more).Nodup → mergeK (opK ks) (opK more) = opK (ks ++ more)
  | [], ks, _ => by rw [List.append_nil]; rfl
  | k :: more, ks, nd => by
    have hk : k ∉ ks := fun z => (List.nodup_append.mp nd).2.2 k z k List.mem_cons_self rfl
    have ih := opK_merge more (ks ++ [k]) (by rw [List.append_assoc]; exact nd)
    rw [List.append_assoc] at ih
    show mergeK (putK (opK ks) (.inl (k : Int)) (.bl true)) (opK more) = opK (ks ++ ([k] ++ more))
    rw [← ih]
    congr 1
    exact og_put opI hk
theorem paired_mem {α β : Type} {F G : α → β → Prop} : ∀ {l₁ : List α} {l₂ : List β}, Paired F l₁ l₂ → (∀ a ∈ l₁, ∀ b, F a b → G a b) → Paired G l₁ l₂
  | _, _, .nil, _ => .nil
  | _, _, .cons r t, f => .cons (f _ List.mem_cons_self _ r) (paired_mem t fun a ha => f a (List.mem_cons_of_mem _ ha))
def inO (ks : List Nat) : Option Nat → Bool
  | none => false
  | some t => decide (t ∈ ks)

theorem tdinN {i j : Nat} {σ : L2.St} {H : Hp} {Q : VK} {al : Addr} {ks : List Nat} {o : Option Nat} (hi : tVar i σ H fun v H' => v = oV o ∧ H' = H) (hj : tVar j σ H fun v H' => v = .ref al ∧ H' = H) (h : H al = some (.dK (opK ks))) (q : Q (.bl (inO ks o)) H) : tDInN (tVar i) (tVar j) σ H Q := by
  obtain ⟨v, e1, rfl, _⟩ := hi
  obtain ⟨x, e2, rfl, _⟩ := hj
  refine ⟨_, e1, _, e2, ?_⟩
  cases o with
  | none => exact .inr ⟨al, _, rfl, rfl, .inl h, q⟩
  | some t =>
    refine .inl ⟨al, _, rfl, DGet.k (k := .inl (t : Int)) h, ?_⟩
    rw [og_some opI]
    exact q
theorem og_yes {α κ : Type} [DecidableEq α] [DecidableEq κ] {f : α → κ} (inj : ∀ a b, f a = f b → a = b) {ks : List α} {k : α} (h : k ∈ ks) : (valV (opG f ks) (f k)).isSome = true := by
  rw [og_val inj, if_pos h]
  rfl
theorem og_nob {α κ : Type} [DecidableEq α] [DecidableEq κ] {f : α → κ} (inj : ∀ a b, f a = f b → a = b) {ks : List α} {k : α} (h : k ∉ ks) : (valV (opG f ks) (f k)).isSome = false := by
  rw [og_val inj, if_neg h]
  rfl

theorem walk_zipT {K : PySem.W.Frag} {a b : Addr} {xs ys : List V} {n : Nat} (e1 : xs.length = n) (e2 : ys.length = n) : Walk (RZ.ItzT K a b) n (fun H => SqT K H a xs ∧ SqT K H b ys) (YPair (fun i => xs[i]?) (fun i => ys[i]?)) := by
  refine ⟨fun i _ hi q => ⟨xs, ys, xs[i]'(by omega), ys[i]'(by omega), q.1, q.2, by simp, by simp⟩, fun _ q => ⟨xs, ys, q.1, q.2, by omega⟩, fun i H v H' _ q y => ?_⟩
  obtain ⟨T, x, z, h1, h2, h3, h4, h5⟩ := y
  exact ⟨T, x, z, h1, h2, h3, h4 xs q.1, h5 ys q.2⟩

/-! ### the word of a node that was come to -/
theorem small6 {n : Nat} (h : n ≤ 5000000) : n < sizeLine := Nat.lt_of_le_of_lt h (by decide)
def cKv (nodes : List Nat) (pas : List V) : List (Key × V) := (nodes.zip pas).map fun p => (.inl (p.1 : Int), p.2)
theorem cKv_len {nodes : List Nat} {pas : List V} (h : pas.length = nodes.length) : (cKv nodes pas).length = nodes.length := by
  unfold cKv
  rw [List.length_map, List.length_zip]
  omega
theorem cKv_mem {nodes : List Nat} {pas : List V} {k : Nat} (h : k ∉ nodes) : ∀ x ∈ cKv nodes pas, ¬ (decide (x.1 = (.inl (k : Int) : Key)) = true) := fun x hx e => by
  obtain ⟨p, hp, rfl⟩ := List.mem_map.mp hx
  have := opI _ _ (of_decide_eq_true e)
  exact h (this ▸ (List.of_mem_zip hp).1)
theorem cKv_at : ∀ {nodes : List Nat} {pas : List V} {j k : Nat} {x : V}, nodes.Nodup → nodes[j]? = some k → pas[j]? = some x → valV (cKv nodes pas) (.inl (k : Int)) = some x
  | [], _, _, _, _, _, h, _ => by cases h
  | _ :: _, [], _, _, _, _, _, h => by cases h
  | n :: nodes, p :: pas, 0, k, x, _, h, g => by
    cases h
    cases g
    unfold valV cKv
    rw [List.zip_cons_cons, List.map_cons, List.find?_cons_of_pos (by exact decide_eq_true rfl)]
    rfl
  | n :: nodes, p :: pas, j + 1, k, x, nd, h, g => by
    obtain ⟨n1, n2⟩ := List.nodup_cons.mp nd
    have h' : nodes[j]? = some k := h
    have ne : n ≠ k := fun e => n1 (e ▸ List.mem_of_getElem? h')
    have ih := cKv_at (pas := pas) n2 h' g
    unfold valV cKv at ih ⊢
    rw [List.zip_cons_cons, List.map_cons, List.find?_cons_of_neg (by rw [decide_eq_true_eq]; exact fun z => ne (opI _ _ z))]
    exact ih
theorem cKv_no {nodes : List Nat} {pas : List V} {k : Nat} (h : k ∉ nodes) : valV (cKv nodes pas) (.inl (k : Int)) = none := by
  unfold valV
  rw [List.find?_eq_none.mpr (cKv_mem h)]
  rfl
theorem cKv_put {nodes : List Nat} {pas : List V} {k : Nat} {x : V} (l : pas.length = nodes.length) (h : k ∉ nodes) : putK (cKv nodes pas) (.inl (k : Int)) x = cKv (nodes ++ [k]) (pas ++ [x]) := by
  unfold putK
  rw [if_neg (fun z => by
    obtain ⟨y, hy, e⟩ := List.any_eq_true.mp z
    exact cKv_mem h y hy e)]
  unfold cKv
  rw [List.zip_append l.symm, List.map_append]
  rfl
/-- what was come to, as it lies -/
structure CameAt (H : Hp) (d : Addr) (nodes : List Nat) (reps : List (List Nat)) (pas : List V) : Prop where
  hd : H d = some (.dK (cKv nodes pas))
  ln : pas.length = nodes.length
  at_ : ∀ (j v : Nat) (r : List Nat), nodes[j]? = some v → reps[j]? = some r → (r = [] ∧ pas[j]? = some .non) ∨ ∃ (a : Addr) (i u c : Nat) (r' : List Nat), pas[j]? = some (.ref a) ∧ H a = some (.tup [.int (u : Int), .int (c : Int)]) ∧ nodes[i]? = some u ∧ reps[i]? = some r' ∧ r = c :: r'
theorem CameAt.same {H H' : Hp} {d : Addr} {nodes : List Nat} {reps : List (List Nat)} {pas : List V} (h : CameAt H d nodes reps pas) (s : Same H H') : CameAt H' d nodes reps pas :=
  ⟨s _ _ h.hd, h.ln, fun j v r h1 h2 => (h.at_ j v r h1 h2).imp id fun ⟨a, i, u, c, r', e1, e2, e3⟩ => ⟨a, i, u, c, r', e1, s _ _ e2, e3⟩⟩
theorem abc_at {c : Nat} (h : c < 3) : atI ("abc" : Str).cps.toList (c : Int) = some (97 + c) := by
  have : c = 0 ∨ c = 1 ∨ c = 2 := by omega
  rcases this with rfl | rfl | rfl <;> rfl

section
variable {P : Program} {w : World} {K : PySem.W.Frag} {mg : Str → Option Value} {base : Heap}
theorem scSpelled : FnScope ["came", "node", "signs", "letter"] ["came", "node"] (defScope sSpelled) := ⟨rfl, rfl, rfl, by decide +kernel, rfl, by decide +kernel, by decide +kernel⟩
def spSpelled : Sp := fun vs H Q _ => ∃ (L : Nat) (dd : Addr) (nodes : List Nat) (reps : List (List Nat)) (pas : List V) (j v : Nat) (r : List Nat), vs = [.ref dd, .int (v : Int)] ∧ L ≤ 3 ∧ CameAt H dd nodes reps pas ∧ nodes.Nodup ∧ nodes[j]? = some v ∧ reps[j]? = some r ∧ Wl L r ∧ r.length ≤ 1000000 ∧ nodes.length ≤ 1000000 ∧
  ∀ H', Same H H' → Q (.str (txR r)) H'
theorem ok_spelled {f : Addr} {fd : FuncData} (F : Fun K "spelled" "spelled" sSpelled f fd) (T : Mg mg) : FnOk P w K mg base CX0 1 f fd ["came", "node"] spSpelled := by
  refine F.ok scSpelled (fun vs H Q E h => ?_) (fun cdv A outer s H vs Q E hr h => ?_)
  · obtain ⟨L, dd, nodes, reps, pas, j, v, r, rfl, _⟩ := h
    rfl
  · obtain ⟨L, dd, nodes, reps, pas, j, v, r, rfl, L3, CA, nd, hv, hrj, wl, rl, n1, k⟩ := h
    obtain ⟨tt, le⟩ := T.le
    have hu1 := hu_of hr
    refine ⟨_, (pss_cons (ps_set (i := 2) scSpelled.nd rfl (.inl rfl) (pe_lst pa_nil))
      (pss_cons (ps_while PassesOwn.never (pt_cmp (pc_notN (pe_dget hu1 (pv 0) (pv 1) (fun _ _ => rfl)))) (pss_cons (ps_asg (pe_dget hu1 (pv 0) (pv 1) (fun _ _ => rfl)) (pg_tup rfl (pgs_cons (pg_name (i := 1) scSpelled.nd rfl (.inl rfl)) (pgs_cons (pg_name (i := 3) scSpelled.nd rfl (.inl rfl)) pgs_nil))))
      (pss_one (ps_expr (pe_bm PySem.F.plainAttrs_list PySem.F.slot_list_append PySem.F.type_list_append mt_append (pv 2) (pa_cons (pe_ix ix_str (pe_glob (v := .str "abc") (by rfl) le ⟨_, rfl⟩) (pv 3) (fun _ _ => rfl)) pa_nil))))))
      (pss_one (ps_ret (pe_bm (r := rJoin K) PySem.F.plainAttrs_str PySem.F.slot_str_join PySem.F.type_str_join mt_join pe_str (pa_cons (pe_revL (pv 2)) pa_nil)))))), ?_⟩
    refine ⟨by show 0 ≤ sizeLine; decide, fun S nS => ?_⟩
    have s1 := same_new (o := .lst []) nS
    refine while_by (fun σ H' => ∃ (i u : Nat) (ri pre : List Nat) (y3 : Option V), σ = [some (.ref dd), some (.int (u : Int)), some (.ref S), y3] ∧ Same H H' ∧ H' S = some (.lst (pre.map fun c => sgV (97 + c))) ∧ nodes[i]? = some u ∧ reps[i]? = some ri ∧ r = pre ++ ri)
      (fun (_ : List (Option V)) (H' : Hp) => match H' S with
        | some (.lst xs) => 1000001 - xs.length
        | _ => 0) ⟨j, v, r, [], none, rfl, s1, upd_same, hv, hrj, rfl⟩ ?_ ?_
    · rintro σ H1 ⟨i, u, ri, pre, y3, rfl, sm, hS, hu, hri, er⟩
      have CA1 := CA.same sm
      rcases CA1.at_ i u ri hu hri with ⟨z, hp⟩ | ⟨a, i', u', c, r', hp, ha, hu', hr', z⟩
      · have dg : DGet H1 dd (.int (u : Int)) (some .non) := .inl ⟨cKv nodes pas, .inl (u : Int), .inl CA1.hd, rfl, (cKv_at nd hu hp).symm⟩
        refine ⟨_, rfl, _, rfl, dd, .non, rfl, dg, _, rfl, ?_⟩
        subst z
        rw [List.append_nil] at er
        subst er
        refine ⟨rfl, _, rfl, S, _, rfl, SqL.of hS, fun q nq => ?_⟩
        have em : (r.map fun c => sgV (97 + c)).reverse = (((r.reverse.map (97 + ·)).map fun c => (⟨#[c]⟩ : Str))).map V.str := by
          rw [← sg_map, List.map_map, ← List.map_reverse]
          rfl
        rw [em]
        refine ⟨"", q, (r.reverse.map (97 + ·)).map fun c => (⟨#[c]⟩ : Str), rfl, rfl, .inl (SqL.of upd_same), ?_, ?_⟩
        · rw [sg_sum, List.length_map, List.length_reverse, List.length_map, List.length_map, List.length_reverse, show ("" : Str).length = 0 from rfl]
          omega
        · rw [join_sg]
          exact k _ (sm.trans (same_new nq))
      · have dg : DGet H1 dd (.int (u : Int)) (some (.ref a)) := .inl ⟨cKv nodes pas, .inl (u : Int), .inl CA1.hd, rfl, (cKv_at nd hu hp).symm⟩
        refine ⟨_, rfl, _, rfl, dd, .ref a, rfl, dg, _, rfl, ?_⟩
        subst z
        have hc : c < L := wl c (by rw [er]; exact List.mem_append.mpr (.inr List.mem_cons_self))
        have pl : pre.length < r.length := by
          rw [er, List.length_append, List.length_cons]
          omega
        refine ⟨_, rfl, _, rfl, dd, .ref a, rfl, dg, a, _, rfl, SqT.of ha, rfl, _, _, rfl, _, _, rfl, rfl, ?_⟩
        refine ⟨_, rfl, .inl ⟨rfl, _, SqL.of hS⟩, _, rfl, "abc", (c : Int), 97 + c, rfl, rfl, by decide, abc_at (by omega), S, _, _, rfl, rfl, hS, small6 (by rw [List.length_map]; omega), ⟨i', u', r', pre ++ [c], _, rfl, fun b o e => ?_, by rw [upd_same, List.map_append]; rfl, hu', hr', by rw [er, List.append_assoc]; rfl⟩, ?_⟩
        · rw [upd_ne (ne_of_none e nS)]
          exact sm _ _ e
        · rw [upd_same, hS]
          show 1000001 - (pre.map (fun c => sgV (97 + c)) ++ [_]).length < 1000001 - (pre.map fun c => sgV (97 + c)).length
          rw [List.length_append, List.length_map, List.length_singleton]
          omega
    · rintro σ H1 Q1 Q2 hQ ⟨x, e1, y, e2, p, ys, e3, e4, b, e5, q⟩
      exact ⟨x, e1, y, e2, p, ys, e3, e4, b, e5, hQ _ _ q⟩
end
/-! ### the first word, layer by layer -/
theorem CameAt.wr {H : Hp} {d p : Addr} {nodes : List Nat} {reps : List (List Nat)} {pas : List V} {xs : List V} {o : HO} (h : CameAt H d nodes reps pas) (hp : H p = some (.lst xs)) : CameAt (upd H p o) d nodes reps pas := by
  refine ⟨?_, h.ln, fun j v r h1 h2 => (h.at_ j v r h1 h2).imp id fun ⟨a, i, u, c, r', e1, e2, e3⟩ => ⟨a, i, u, c, r', e1, ?_, e3⟩⟩
  · rw [upd_ne (fun z => by rw [← z, h.hd] at hp; cases hp)]
    exact h.hd
  · rw [upd_ne (fun z => by rw [← z, e2] at hp; cases hp)]
    exact e2
/-- one more that was come to -/
theorem CameAt.add {H : Hp} {d a : Addr} {nodes : List Nat} {reps : List (List Nat)} {pas : List V} {v i u c : Nat} {r' : List Nat} (h : CameAt H d nodes reps pas) (lr : nodes.length = reps.length) (ha : H a = some (.tup [.int (u : Int), .int (c : Int)])) (hu : nodes[i]? = some u) (hr : reps[i]? = some r') : CameAt (upd H d (.dK (cKv (nodes ++ [v]) (pas ++ [.ref a])))) d (nodes ++ [v]) (reps ++ [c :: r']) (pas ++ [.ref a]) := by
  have ln := h.ln
  have low : ∀ {α : Type} {xs : List α} {x y : α} {i : Nat}, xs[i]? = some y → (xs ++ [x])[i]? = some y := fun {α xs x y i} e => by
    rw [List.getElem?_append_left (List.getElem?_eq_some_iff.mp e).1]
    exact e
  have tup : ∀ {b : Addr} {xs : List V}, H b = some (.tup xs) → (upd H d (.dK (cKv (nodes ++ [v]) (pas ++ [.ref a])))) b = some (.tup xs) := fun {b xs} e => by
    rw [upd_ne (fun z => by rw [z, h.hd] at e; cases e)]
    exact e
  refine ⟨upd_same, by rw [List.length_append, List.length_append, ln]; rfl, fun j v' r h1 h2 => ?_⟩
  rcases Nat.lt_or_ge j nodes.length with l | l
  · rw [List.getElem?_append_left l] at h1
    rw [List.getElem?_append_left (by omega)] at h2
    rcases h.at_ j v' r h1 h2 with ⟨e1, e2⟩ | ⟨b, i', u', c', r2, e1, e2, e3, e4, e5⟩
    · exact .inl ⟨e1, low e2⟩
    · exact .inr ⟨b, i', u', c', r2, low e1, tup e2, low e3, low e4, e5⟩
  · have l2 := (List.getElem?_eq_some_iff.mp h1).1
    rw [List.length_append, List.length_singleton] at l2
    have ej : j = nodes.length := by omega
    rw [List.getElem?_append_right (by omega), show j - reps.length = 0 by omega] at h2
    refine .inr ⟨a, i, u, c, r', ?_, tup ha, low hu, low hr, (Option.some.inj h2).symm⟩
    rw [List.getElem?_append_right (by omega), show j - pas.length = 0 by omega]
    rfl

section
open NdefX LamX
variable {P : Program} {w : World} {K : PySem.W.Frag} {mg : Str → Option Value} {base : Heap}
theorem scFirst : FnScope ["start", "goes", "wanted", "came", "edge", "further", "node", "letter", "target"] ["start", "goes", "wanted"] (defScope sFirst) := ⟨rfl, rfl, rfl, by decide +kernel, rfl, by decide +kernel, by decide +kernel⟩
def gT (g : Nat → List Nat) (v c : Nat) : Nat := (g v).getD c 0
def spGoes (G : List (Option V) → Hp → Prop) (n : Nat) (g : Nat → List Nat) : List (Option V) → Sp := fun ws vs H Q _ => G ws H ∧ ∃ v : Nat, vs = [.int (v : Int)] ∧ v < n ∧ ∀ H' l, Same H H' → H l = none → H' l = some (.lst ((g v).map natV)) → Q (.ref l) H'
def spWant (G : List (Option V) → Hp → Prop) (n : Nat) (wt : Nat → Bool) : List (Option V) → Sp := fun ws vs H Q _ => G ws H ∧ ∃ v : Nat, vs = [.int (v : Int)] ∧ v < n ∧ ∀ H', Same H H' → Q (.bl (wt v)) H'
def spFirst (P : Program) (w : World) (K : PySem.W.Frag) (mg : Str → Option Value) (base : Heap) : Shared → List Env → Sp := fun s outer vs H Q _ => ∃ (n L : Nat) (g : Nat → List Nat) (wt : Nat → Bool) (fg fw : Addr) (Fg Fw : NF) (pg pw frg frw : List Str) (wsg wsw : List (Option V)) (Gg Gw : List (Option V) → Hp → Prop) (v0 : Nat), vs = [.int (v0 : Int), .ref fg, .ref fw] ∧
  CloAt outer s H Fg fg frg wsg ∧ CloAt outer s H Fw fw frw wsw ∧ NOk P w K mg base CX0 1 fg Fg pg frg (spGoes Gg n g) ∧ NOk P w K mg base CX0 1 fw Fw pw frw (spWant Gw n wt) ∧
  (∀ H', Same H H' → Gg wsg H' ∧ Gw wsw H') ∧ v0 < n ∧ (∀ v, v < n → (g v).length = L ∧ ∀ t ∈ g v, t < n) ∧ L ≤ 3 ∧ n ≤ 200000 ∧
  ∀ H' o, Same H H' → First (fun u => wt (walkr (gT g) v0 u) = true) L o → Q (txO o) H'
theorem ok_first {f fSP : Addr} {fd fdSP : FuncData} (F : Fun K "first_word" "first_word" sFirst f fd)
    (SP : FnOk P w K mg base CX0 1 fSP fdSP ["came", "node"] spSpelled) (FSP : Fun K "spelled" "spelled" sSpelled fSP fdSP) (bSP : Binds K fdSP ["came", "node"] []) (gSP : mg "spelled" = some (.ref fSP)) (T : Mg mg) : CRun P w K mg base 2 f fd ["start", "goes", "wanted"] (spFirst P w K mg base) := by
  refine crun F scFirst (fun cdv A outer s H vs Q hr h => ?_)
  obtain ⟨n, L, g, wt, fg, fw, Fg, Fw, pg, pw, frg, frw, wsg, wsw, Gg, Gw, v0, rfl, CG, CW, FG, FW, stb, v0n, gw, L3, n2, k⟩ := h
  have hu1 := hu_of hr
  refine ⟨_, (pss_cons (ps_if (pt_val (pe_callH FW CW rfl hr (by decide) (i := 2) (by rfl) (.inl (by rfl)) (pa_cons (pv 0) pa_nil))) (pss_one (ps_ret pe_str)) pss_nil)
      (pss_cons (ps_set (i := 3) scFirst.nd rfl (.inl rfl) (pe_disp (pps_cons (pv 0) pe_non pps_nil) (by rfl) (by rfl) (fun z => by cases z) (by decide)))
      (pss_cons (ps_set (i := 4) scFirst.nd rfl (.inl rfl) (pe_lst (pa_cons (pv 0) pa_nil)))
      (pss_cons (ps_while PassesOwn.never (pt_lstT (pv 4)) (pss_cons (ps_set (i := 5) scFirst.nd rfl (.inl rfl) (pe_lst pa_nil))
      (pss_cons (ps_for PassesOwn.never rfl (pi_list (pv 4)) (pg_name (i := 6) scFirst.nd rfl (.inl rfl)) (pss_one (ps_for PassesOwn.never rfl (pi_enum (by rfl) T.enum (pa_cons (pe_callH FG CG rfl hr (by decide) (i := 1) (by rfl) (.inl (by rfl)) (pa_cons (pv 6) pa_nil)) pa_nil)) (pg_tup rfl (pgs_cons (pg_name (i := 7) scFirst.nd rfl (.inl rfl)) (pgs_cons (pg_name (i := 8) scFirst.nd rfl (.inl rfl)) pgs_nil))) (pss_cons (ps_if (PW.pt (pw_or (pt_cmp (pc_isN (pv 8))) (pw_or1 (pt_cmp (pc_din hu1 (pv 8) (pv 3)))))) (pss_one ps_continue) pss_nil)
      (pss_cons (ps_asg (pe_tup (pa_cons (pv 6) (pa_cons (pv 7) pa_nil))) (pg_sub (pv 3) (pv 8) (set_dict hu1)))
      (pss_cons (ps_if (pt_val (pe_callH FW CW rfl hr (by decide) (i := 2) (by rfl) (.inl (by rfl)) (pa_cons (pv 8) pa_nil))) (pss_one (ps_ret (pe_call SP (hr.mono (by decide)) (by rfl) gSP FSP.kp bSP .nil pass0 (pa_cons (pv 3) (pa_cons (pv 8) pa_nil))))) pss_nil)
      (pss_one (ps_expr (pe_bm PySem.F.plainAttrs_list PySem.F.slot_list_append PySem.F.type_list_append mt_append (pv 5) (pa_cons (pv 8) pa_nil))))))))))
      (pss_one (ps_set (i := 4) scFirst.nd rfl (.inl rfl) (pv 5))))))
      (pss_one (ps_ret pe_non)))))), ?_⟩
  refine ⟨rfl, CW.fn, _, rfl, CW.fn, CW.cd, (stb H (Same.refl _)).2, v0, rfl, v0n, fun H1 s1 => ⟨_, rfl, ?_⟩⟩
  cases hw0 : wt v0 with
  | true =>
    have e : V.str "" = txO (some []) := by decide +kernel
    rw [e]
    refine k H1 (some []) s1 ⟨fun c hc => absurd hc List.not_mem_nil, hw0, fun u _ z => ?_⟩
    cases u with
    | nil => exact z.elim
    | cons c u => exact z.elim
  | false =>
    intro dn hdn
    refine ⟨_, rfl, upd_same, [(.inl (v0 : Int), .non)], rfl, by show 1 ≤ 15; decide, ?_⟩
    rw [upd_upd]
    have s2 := s1.trans (same_new (o := .dK (mergeK [] [(.inl (v0 : Int), V.non)])) hdn)
    have d0 : H dn = none := s1.free hdn
    have CA0 : CameAt (upd H1 dn (.dK (mergeK [] [(.inl (v0 : Int), V.non)]))) dn [v0] [[]] [.non] := ⟨upd_same, rfl, fun j v r h1 h2 => by
      cases j with
      | zero =>
        cases h2
        exact .inl ⟨rfl, rfl⟩
      | succ j => cases h1⟩
    clear hdn
    generalize upd H1 dn (.dK (mergeK [] [(.inl (v0 : Int), V.non)])) = H2 at *
    refine ⟨_, rfl, by show 1 ≤ sizeLine; decide, fun e0 he0 => ?_⟩
    have s3 := same_new (o := .lst [.int (v0 : Int)]) he0
    have CA1 := CA0.same s3
    have e00 : H e0 = none := s2.free he0
    have he1 : (upd H2 e0 (.lst [.int (v0 : Int)])) e0 = some (.lst (([v0].drop 0).map natV)) := upd_same
    have s03 := s2.trans s3
    clear he0 s3 CA0
    generalize upd H2 e0 (.lst [.int (v0 : Int)]) = H3 at *
    refine while_by (fun σ H' => ∃ (ea p : Nat) (nodes : List Nat) (reps : List (List Nat)) (pas : List V) (y5 y6 y7 y8 : Option V), σ = [some (.int (v0 : Int)), some (.ref fg), some (.ref fw), some (.ref dn), some (.ref ea), y5, y6, y7, y8] ∧ Same H H' ∧ H ea = none ∧ CameAt H' dn nodes reps pas ∧ H' ea = some (.lst ((nodes.drop p).map natV)) ∧ Bfs (gT g) wt L v0 nodes reps p 0 ∧ p ≤ nodes.length ∧ ∀ v ∈ nodes, v < n)
      (fun (σ : List (Option V)) (H' : Hp) => match σ[4]? with
        | some (some (V.ref ea)) => (match H' ea, H' dn with
          | some (.lst xs), some (.dK kvs) => n + 1 + xs.length - kvs.length
          | _, _ => 0)
        | _ => 0) ⟨e0, 0, [v0], [[]], [.non], _, _, _, _, rfl, s03, e00, CA1, he1, bfs_start hw0, Nat.zero_le _, fun v hv => by rw [List.mem_singleton.mp hv]; exact v0n⟩ ?_ ?_
    · rintro σ H4 ⟨ea, p, nodes, reps, pas, y5, y6, y7, y8, rfl, s4, ea0, CA4, he4, B4, pl, ln⟩
      have nl := nodup_len B4.nd ln
      refine ⟨_, rfl, ea, _, rfl, SqL.of he4, ?_⟩
      have ⟨q, hq⟩ : ∃ q, q = nodes.length - p := ⟨_, rfl⟩
      have cl4 := cKv_len CA4.ln
      by_cases hp : p = nodes.length
      · -- nothing more
        have he : nodes.drop p = [] := by rw [hp, List.drop_length]
        rw [he]
        exact k H4 none s4 (B4.none_ (by omega))
      · have pl2 : p < nodes.length := by omega
        have hne : (!(List.map natV (nodes.drop p)).isEmpty) = true := by
          have : (nodes.drop p).length ≠ 0 := by rw [List.length_drop]; omega
          cases hd : nodes.drop p with
          | nil => rw [hd] at this; exact absurd rfl this
          | cons a b => rfl
        rw [hne]
        refine ⟨by show 0 ≤ sizeLine; decide, fun fu hfu => ?_⟩
        have fu0 : H fu = none := s4.free hfu
        have nef : ea ≠ fu := fun z => by rw [← z, he4] at hfu; cases hfu
        have ndf : dn ≠ fu := fun z => by rw [← z, CA4.hd] at hfu; cases hfu
        have s5 := s4.trans (same_new (o := .lst []) hfu)
        have CA5 := CA4.same (same_new (o := .lst []) hfu)
        have he5 := same_new (o := .lst []) hfu _ _ he4
        have hf5 : (upd H4 fu (.lst [])) fu = some (.lst ((([] : List Nat)).map natV)) := upd_same
        clear hfu
        generalize upd H4 fu (.lst []) = H5 at *
        refine ⟨_, rfl, ea, rfl, ⟨_, SqL.of he5⟩, ?_⟩
        refine for_list (K := K) (a := ea) (xs := (nodes.drop p).map natV) (fun i σ H' => ∃ (ext : List Nat) (reps' : List (List Nat)) (pas' : List V) (y6 y7 y8 : Option V), σ = [some (.int (v0 : Int)), some (.ref fg), some (.ref fw), some (.ref dn), some (.ref ea), some (.ref fu), y6, y7, y8] ∧ Same H H' ∧ CameAt H' dn (nodes ++ ext) reps' pas' ∧ H' ea = some (.lst ((nodes.drop p).map natV)) ∧ H' fu = some (.lst (ext.map natV)) ∧ Bfs (gT g) wt L v0 (nodes ++ ext) reps' (p + i) 0 ∧ ∀ v ∈ nodes ++ ext, v < n)
          ⟨[], reps, pas, _, _, _, rfl, s5, by rw [List.append_nil]; exact CA5, he5, hf5, by rw [List.append_nil]; exact B4, by rw [List.append_nil]; exact ln⟩ (fun i σ H' _ p => by
            obtain ⟨_, _, _, _, _, _, _, _, _, he, _⟩ := p
            exact SqL.of he) ?_ ?_
        · rintro i x σ H6 hx ⟨ext, reps', pas', y6, y7, y8, rfl, s6, CA6, he6, hf6, B6, ln6⟩
          obtain ⟨u, hu, rfl⟩ := natV_of hx
          rw [List.getElem?_drop] at hu
          have hu6 : (nodes ++ ext)[p + i]? = some u := by
            rw [List.getElem?_append_left (List.getElem?_eq_some_iff.mp hu).1]
            exact hu
          have un := ln6 u (List.mem_of_getElem? hu6)
          obtain ⟨gl, gt_⟩ := gw u un
          have pil := (List.getElem?_eq_some_iff.mp hu6).1
          obtain ⟨ru, hru⟩ : ∃ ru, reps'[p + i]? = some ru := ⟨_, List.getElem?_eq_getElem (by rw [← B6.ln]; exact pil)⟩
          refine ⟨rfl, s6 _ _ CG.fn, _, rfl, s6 _ _ CG.fn, s6 _ _ CG.cd, (stb H6 s6).1, u, rfl, un, fun H7 gl_ s7 g0 hg7 => ?_⟩
          have s67 := s6.trans s7
          have g00 : H gl_ = none := s6.free g0
          have CA7 := CA6.same s7
          have he7 := s7 _ _ he6
          have hf7 := s7 _ _ hf6
          have ngf : gl_ ≠ fu := fun z => by rw [z, hf6] at g0; cases g0
          have ngd : gl_ ≠ dn := fun z => by rw [z, CA6.hd] at g0; cases g0
          refine ⟨gl_, _, rfl, SqL.of hg7, ?_⟩
          refine for_it (walk_enum (a := gl_) (xs := (g u).map natV)) (fun c σ H' => ∃ (ext : List Nat) (reps' : List (List Nat)) (pas' : List V) (y7 y8 : Option V), σ = [some (.int (v0 : Int)), some (.ref fg), some (.ref fw), some (.ref dn), some (.ref ea), some (.ref fu), some (.int (u : Int)), y7, y8] ∧ Same H H' ∧ CameAt H' dn (nodes ++ ext) reps' pas' ∧ H' ea = some (.lst ((nodes.drop p).map natV)) ∧ H' fu = some (.lst (ext.map natV)) ∧ Bfs (gT g) wt L v0 (nodes ++ ext) reps' (p + i) c ∧ (∀ v ∈ nodes ++ ext, v < n) ∧ H' gl_ = some (.lst ((g u).map natV)) ∧ (nodes ++ ext)[p + i]? = some u)
            ⟨ext, reps', pas', _, _, rfl, s67, CA7, he7, hf7, B6, ln6, hg7, hu6⟩ (fun c σ H' _ p => by
              obtain ⟨_, _, _, _, _, _, _, _, _, _, _, _, hg, _⟩ := p
              exact SqL.of hg) ?_ ?_
          · rintro c x σ H8 H9 hc ⟨ext, reps', pas', y7, y8, rfl, s8, CA8, he8, hf8, B8, ln8, hg8, hu8⟩ ⟨T2, va, vb, rfl, nT, rfl, ea_, eb⟩
            cases ea_
            obtain ⟨t, ht, rfl⟩ := natV_of eb
            rw [List.length_map, gl] at hc
            have tn := gt_ t (List.mem_of_getElem? ht)
            have et : gT g u c = t := by
              unfold gT
              rw [List.getD_eq_getElem?_getD, ht]
              rfl
            have sT := same_new (o := .tup [.int (c : Nat), .int (t : Int)]) nT
            have s9 := s8.trans sT
            have CA9 := CA8.same sT
            have he9 := sT _ _ he8
            have hf9 := sT _ _ hf8
            have hg9 := sT _ _ hg8
            have gT9 : (upd H8 T2 (.tup [.int (c : Nat), .int (t : Int)])) T2 = some (.tup [.int (c : Nat), .int (t : Int)]) := upd_same
            have pil8 := (List.getElem?_eq_some_iff.mp hu8).1
            obtain ⟨ru8, hru8⟩ : ∃ ru, reps'[p + i]? = some ru := ⟨_, List.getElem?_eq_getElem (by rw [← B8.ln]; exact pil8)⟩
            have nl8 := nodup_len B8.nd ln8
            clear nT sT
            generalize upd H8 T2 (.tup [.int (c : Nat), .int (t : Int)]) = H9 at *
            refine ⟨T2, _, rfl, SqT.of gT9, rfl, _, _, rfl, _, _, rfl, rfl, ?_⟩
            by_cases hin : t ∈ nodes ++ ext
            · obtain ⟨j, hj⟩ := List.mem_iff_getElem?.mp hin
              have jl := (List.getElem?_eq_some_iff.mp hj).1
              have hpj : pas'[j]? = some (pas'[j]'(by rw [CA9.ln]; exact jl)) := List.getElem?_eq_getElem _
              have dg : DGet H9 dn (.int (t : Int)) (some (pas'[j]'(by rw [CA9.ln]; exact jl))) := .inl ⟨cKv (nodes ++ ext) pas', .inl (t : Int), .inl CA9.hd, rfl, (cKv_at B8.nd hj hpj).symm⟩
              refine ⟨_, rfl, _, rfl, _, rfl, _, rfl, dn, _, rfl, dg, _, rfl, ?_⟩
              exact ⟨ext, reps', pas', _, _, rfl, s9, CA9, he9, hf9, B8.skip hu8 hc (by rw [et]; exact hin), ln8, hg9, hu8⟩
            · have dg : DGet H9 dn (.int (t : Int)) none := .inl ⟨cKv (nodes ++ ext) pas', .inl (t : Int), .inl CA9.hd, rfl, (cKv_no hin).symm⟩
              refine ⟨_, rfl, _, rfl, _, rfl, _, rfl, dn, _, rfl, dg, _, rfl, ?_⟩
              refine ⟨_, rfl, _, rfl, by show 2 ≤ sizeLine; decide, fun T3 nT3 => ?_⟩
              have sU := same_new (o := .tup [.int (u : Int), .int (c : Nat)]) nT3
              have CA10 := CA9.same sU
              have g10 : (upd H9 T3 (.tup [.int (u : Int), .int (c : Nat)])) T3 = some (.tup [.int (u : Int), .int (c : Nat)]) := upd_same
              have dp := DPut.k (k := .inl (t : Int)) (v := V.ref T3) CA10.hd (small6 (by rw [cKv_len CA10.ln]; omega))
              rw [cKv_put CA10.ln hin] at dp
              refine ⟨_, rfl, _, rfl, dn, _, rfl, dp, ?_⟩
              have CA11 := CA10.add (v := t) B8.ln g10 hu8 hru8
              have s10 := s9.trans sU
              have wr : ∀ {z : Addr} {xs : List V}, H9 z = some (.lst xs) → (upd (upd H9 T3 (.tup [.int (u : Int), .int (c : Nat)])) dn (.dK (cKv (nodes ++ ext ++ [t]) (pas' ++ [V.ref T3])))) z = some (.lst xs) := fun {z xs} e => by
                rw [upd_ne (fun y => by rw [y, CA9.hd] at e; cases e)]
                exact sU _ _ e
              have he11 := wr he9
              have hf11 := wr hf9
              have hg11 := wr hg9
              have s11 : Same H (upd (upd H9 T3 (.tup [.int (u : Int), .int (c : Nat)])) dn (.dK (cKv (nodes ++ ext ++ [t]) (pas' ++ [V.ref T3])))) := fun b o e => by
                rw [upd_ne (ne_of_none e d0)]
                exact s10 _ _ e
              clear wr dp CA10 g10 sU s10 nT3
              generalize upd (upd H9 T3 (.tup [.int (u : Int), .int (c : Nat)])) dn (.dK (cKv (nodes ++ ext ++ [t]) (pas' ++ [V.ref T3]))) = H11 at *
              have wlu := B8.wk _ _ _ hu8 hru8
              have rlu := B8.len _ _ hru8
              refine ⟨rfl, s11 _ _ CW.fn, _, rfl, s11 _ _ CW.fn, s11 _ _ CW.cd, (stb H11 s11).2, t, rfl, tn, fun H12 s12 => ⟨_, rfl, ?_⟩⟩
              have CA12 := CA11.same s12
              have s1112 := s11.trans s12
              cases hwt : wt t with
              | true =>
                have nd12 : (nodes ++ ext ++ [t]).Nodup := by
                  rw [List.nodup_append]
                  exact ⟨B8.nd, List.nodup_cons.mpr ⟨List.not_mem_nil, List.nodup_nil⟩, fun x hx y hy e => hin (by rw [← List.mem_singleton.mp hy, ← e]; exact hx)⟩
                refine ⟨_, rfl, _, rfl, L, dn, nodes ++ ext ++ [t], reps' ++ [c :: ru8], pas' ++ [V.ref T3], (nodes ++ ext).length, t, c :: ru8, rfl, L3, CA12, nd12, ?_, ?_, fun d hd => (List.mem_cons.mp hd).elim (fun z => z ▸ hc) (wlu.2 d), ?_, ?_, fun H13 s13 => ?_⟩
                · rw [List.getElem?_append_right (Nat.le_refl _), Nat.sub_self]
                  rfl
                · rw [List.getElem?_append_right (by rw [B8.ln]; exact Nat.le_refl _), B8.ln, Nat.sub_self]
                  rfl
                · rw [List.length_cons]
                  omega
                · rw [List.length_append, List.length_singleton]
                  omega
                · exact k H13 (some (c :: ru8)) (s1112.trans s13) (B8.found hu8 hru8 hc (by rw [et]; exact hwt))
              | false =>
                have B12 := B8.add hu8 hru8 hc (by rw [et]; exact hin) (by rw [et]; exact hwt)
                rw [et, List.append_assoc] at B12
                rw [List.append_assoc] at CA12
                have hf12 := s12 _ _ hf11
                have he12 := s12 _ _ he11
                have hg12 := s12 _ _ hg11
                have el : ext.length ≤ (nodes ++ ext).length := by rw [List.length_append]; omega
                refine ⟨_, rfl, .inl ⟨rfl, _, SqL.of hf12⟩, _, rfl, fu, _, _, rfl, rfl, hf12, small6 (by rw [List.length_map]; omega), ?_⟩
                refine ⟨ext ++ [t], _, _, _, _, rfl, fun b o e => ?_, CA12.wr hf12, by rw [upd_ne nef]; exact he12, by rw [upd_same, List.map_append]; rfl, B12, fun v hv => ?_, ?_, ?_⟩
                · rw [upd_ne (ne_of_none e fu0)]
                  exact s1112 _ _ e
                · rw [← List.append_assoc] at hv
                  rcases List.mem_append.mp hv with z | z
                  · exact ln8 v z
                  · rw [List.mem_singleton.mp z]
                    exact tn
                · rw [upd_ne ngf]
                  exact hg12
                · rw [← List.append_assoc, List.getElem?_append_left pil8]
                  exact hu8
          · rintro σ H8 ⟨ext, reps', pas', y7, y8, rfl, s8, CA8, he8, hf8, B8, ln8, hg8, hu8⟩
            rw [List.length_map, gl] at B8
            exact ⟨ext, reps', pas', _, _, _, rfl, s8, CA8, he8, hf8, B8.next (Nat.le_refl _), ln8⟩
        · rintro σ H6 ⟨ext, reps', pas', y6, y7, y8, rfl, s6, CA6, he6, hf6, B6, ln6⟩
          rw [List.length_map, List.length_drop, show p + (nodes.length - p) = nodes.length by omega] at B6
          have nl6 := nodup_len B6.nd ln6
          refine ⟨_, rfl, ⟨fu, nodes.length, nodes ++ ext, reps', pas', _, _, _, _, rfl, s6, fu0, CA6, by rw [List.drop_left]; exact hf6, B6, by rw [List.length_append]; omega, ln6⟩, ?_⟩
          show (match H6 fu, H6 dn with
            | some (.lst xs), some (.dK kvs) => n + 1 + xs.length - kvs.length
            | _, _ => 0) < (match H4 ea, H4 dn with
            | some (.lst xs), some (.dK kvs) => n + 1 + xs.length - kvs.length
            | _, _ => 0)
          rw [hf6, CA6.hd, he4, CA4.hd]
          show n + 1 + (ext.map natV).length - (cKv (nodes ++ ext) pas').length < n + 1 + ((nodes.drop p).map natV).length - (cKv nodes pas).length
          rw [cKv_len CA6.ln, cKv_len CA4.ln, List.length_map, List.length_map, List.length_drop, List.length_append]
          rw [List.length_append] at nl6
          omega
    · rintro σ H1 Q1 Q2 hQ ⟨x, e1, a, xs, e2, e3, q⟩
      exact ⟨x, e1, a, xs, e2, e3, hQ _ _ q⟩
end
/-! ### each state has a way with each letter -/
def rCatA : R2 := fun x y H Q => ∃ l b xs zs, x = .ref l ∧ y = .ref b ∧ H l = some (.lst xs) ∧ H b = some (.lst zs) ∧ xs.length + zs.length ≤ sizeLine ∧ ∀ p H', Same H H' → H p = none → H' p = some (.lst (xs ++ zs)) → Q (.ref p) H'
section
variable {X : Cx}
theorem op_catA : OpR X (binaryOp .Add) rCatA := by
  intro pins s σ H x y v u Q I rx ry h
  obtain ⟨l, b, xs, zs, rfl, rfl, hx, hy, hz, q⟩ := h
  cases rx
  cases ry
  obtain ⟨_, its, n, r, h1, e⟩ := I.lstM hx
  obtain ⟨_, jts, m, r2, h2, e2⟩ := I.lstM hy
  refine PySem.P.add_list e e2 ?_ (by rw [List.size_toArray, List.size_toArray]; omega)
  rw [show its.toArray ++ jts.toArray = (its ++ jts).toArray by simp]
  exact ⟨.ref _, _, I.lnew (t' := s.toks) (r.append r2) (by rw [List.length_append]; omega), rfl, q _ _ (same_new I.fresh) I.fresh upd_same⟩
end

section
variable {P : Program} {w : World} {K : PySem.W.Frag} {mg : Str → Option Value} {base : Heap}
theorem scCompl : FnScope ["machine", "letters", "rows", "ends", "sink", "full", "item", "row"] ["machine"] (defScope sCompl) := ⟨rfl, rfl, rfl, by decide +kernel, rfl, by decide +kernel, by decide +kernel⟩
def cmpl (L : Nat) (rs : Rows) : List (List Nat) := rs.map (fun row => row.map fun o => o.getD rs.length) ++ [List.replicate L rs.length]
def spCompl (K : PySem.W.Frag) : Sp := fun vs H Q _ => ∃ (L : Nat) (rs : Rows) (es : List Bool) (x : V) (B : Addr → Prop), vs = [x] ∧ Dt B K H x (machDt L rs es) ∧ MOk L rs es ∧
  ∀ (H' : Hp) (r p1 p2 : Addr) (fas : List Addr), Same H H' → H' r = some (.tup [.ref p1, .ref p2]) → H' p1 = some (.lst (fas.map V.ref)) → MemAt H' fas (cmpl L rs) → H' p2 = some (.lst ((es ++ [false]).map V.bl)) → Q (.ref r) H'
theorem ok_compl {f : Addr} {fd : FuncData} (F : Fun K "completed" "completed" sCompl f fd) (T : Mg mg) : FnOk P w K mg base CX0 1 f fd ["machine"] (spCompl K) := by
  refine F.ok scCompl (fun vs H Q E h => ?_) (fun cdv A outer s H vs Q E hr h => ?_)
  · obtain ⟨L, rs, es, x, B, rfl, _⟩ := h
    rfl
  · obtain ⟨L, rs, es, x, B, rfl, hx, M, k⟩ := h
    refine ⟨_, (pss_cons (ps_asg (pv 0) (pg_tup rfl (pgs_cons (pg_name (i := 1) scCompl.nd rfl (.inl rfl)) (pgs_cons (pg_name (i := 2) scCompl.nd rfl (.inl rfl)) (pgs_cons (pg_name (i := 3) scCompl.nd rfl (.inl rfl)) pgs_nil)))))
      (pss_cons (ps_set (i := 4) scCompl.nd rfl (.inr rfl) (pe_callB (r := rLen K) call_len_seq (by rfl) T.len PySem.boot_len (pa_cons (pv 2) pa_nil)))
      (pss_cons (ps_setLc (i := 5) (own := [("row", 7)]) (g := gName 7) (tt := tYes) rfl scCompl.nd rfl rfl (sw_true rfl rfl rfl (by decide +kernel)) (pi_tup (pv 2)) (blkOk_by (N := ["machine", "letters", "rows", "ends", "sink", "full", "item", "row"]) (sc := defScope sCompl) (by decide +kernel)) (fun _ _ _ _ _ => pg_name (i := 7) scCompl.nd rfl (Or.inl rfl)) (fun _ _ _ _ _ => pts_nil) (fun _ _ _ _ _ => (pe_lc (wi := iTup K _) (own := [("item", 6)]) (g := gName 6) (tt := tYes) rfl scCompl.nd (pi_tup (pv 7)) (blkOk_by (by kernel_rfl)) (fun _ _ _ _ _ => pg_name (i := 6) scCompl.nd rfl (Or.inl rfl)) (fun _ _ _ _ _ => pts_nil) (fun _ _ _ _ _ => (pe_ifExp (pt_cmp (pc_isN (pv 6))) (pv 4) (pv 6))))))
      (pss_one (ps_ret (pe_tup (pa_cons (pe_op op_catA (pv 5) (pe_lst (pa_cons (pe_op op_rep (pe_lst (pa_cons (pv 4) pa_nil)) (pv 1)) pa_nil))) (pa_cons (pe_op op_catA (pe_callTy (r := rListN K) call_listN (by rfl) T.list (by decide +kernel) (pa_cons (pv 3) pa_nil)) (pe_lst (pa_cons pe_bl pa_nil))) pa_nil)))))))), ?_⟩
    have L1 := M.L1
    have L3 := M.L3
    have l1 := M.l1
    have l4 := M.l400
    obtain ⟨m, pr, pe, rvs, rfl, nm, MM⟩ := dt_mach hx
    have hlv := MM.hl
    refine ⟨_, rfl, m, _, rfl, .inl MM.hm, rfl, _, _, rfl, _, _, rfl, _, _, rfl, rfl, ?_⟩
    refine ⟨_, rfl, pr, rvs, rfl, .inr (.inl MM.hr), ?_⟩
    refine ⟨_, rfl, pr, rfl, ⟨_, .inl MM.hr⟩, fun D hD => ?_⟩
    refine lc_tup (K := K) (a := pr) (xs := rvs) (fun i H' => Same H H' ∧ ∃ fas : List Addr, H' D = some (.lst (fas.map V.ref)) ∧ MemAt H' fas ((rs.take i).map fun row => row.map fun o => o.getD rs.length) ∧ ∀ a ∈ fas, a ≠ D) ⟨same_new hD, [], upd_same, ⟨rfl, fun b a e => by cases e⟩, fun a z => absurd z List.not_mem_nil⟩ (fun i H' _ p => .inl (MM.same p.1).hr) ?_ ?_
    · rintro i x H1 hx ⟨s1, fas, hD1, ma, nD⟩
      have il := (List.getElem?_eq_some_iff.mp hx).1
      obtain ⟨row, hrow⟩ : ∃ row, rs[i]? = some row := ⟨_, List.getElem?_eq_getElem (by omega)⟩
      obtain ⟨q, hq1, hq⟩ := (MM.same s1).row i row hrow
      rw [hq1] at hx
      cases hx
      have hrl := M.row row (List.mem_of_getElem? hrow)
      have tk : (rs.take (i + 1)).map (fun row => row.map fun o => o.getD rs.length) = (rs.take i).map (fun row => row.map fun o => o.getD rs.length) ++ [row.map fun o => o.getD rs.length] := by
        rw [List.take_add_one, hrow, List.map_append]
        rfl
      refine ⟨rfl, _, rfl, q, rfl, ⟨_, .inl hq⟩, fun D2 hD2 => ?_⟩
      refine lc_tup (K := K) (a := q) (xs := row.map oV) (NInv (fun o : Option Nat => natV (o.getD rs.length)) row H1 D2) (nstart hD2) (fun i H' _ p => .inl (same_rd p.1 hq)) ?_ ?_
      · rintro j x H2 hx2 p1
        rw [List.getElem?_map] at hx2
        obtain ⟨o, ho, rfl⟩ := Option.map_eq_some_iff.mp hx2
        refine ⟨rfl, _, rfl, _, rfl, ?_⟩
        have sm1 : row.length < sizeLine := small1000 (by omega)
        cases o with
        | none =>
          have := nturn (f := fun o : Option Nat => natV (o.getD rs.length)) sm1 hD2 ho p1 (Same.refl _)
          rw [show natV ((none : Option Nat).getD rs.length) = V.int (rvs.length : Int) by rw [hlv]; rfl] at this
          exact ⟨_, rfl, this⟩
        | some t => exact ⟨_, rfl, nturn (f := fun o : Option Nat => natV (o.getD rs.length)) sm1 hD2 ho p1 (Same.refl _)⟩
      · rintro H2 p1
        obtain ⟨s2, hl2⟩ := nend (List.length_map _) p1
        have hD3 := s2 _ _ hD1
        have nDD : D2 ≠ D := fun z => by rw [z, hD1] at hD2; cases hD2
        have fl := ma.ln
        rw [List.length_map, List.length_take] at fl
        refine ⟨_, hD3, small1000 (by rw [List.length_map]; omega), fun b o e => ?_, fas ++ [D2], by rw [upd_same, List.map_append]; rfl, ?_, fun a ha => ?_⟩
        · rw [upd_ne (ne_of_none e hD)]
          exact s2 _ _ (s1 _ _ e)
        · rw [tk]
          have em : (row.map fun o => natV (o.getD rs.length)) = (row.map fun o : Option Nat => o.getD rs.length).map natV := by
            rw [List.map_map]
            rfl
          rw [em] at hl2
          exact ((ma.keep (W := fun _ => False) (Keep.same s2) (fun _ _ z => z)).push hl2).keep (W := fun b => b = D) (keep_store rfl) (fun a ha z => by
            rcases List.mem_append.mp ha with y | y
            · exact nD a y z
            · rw [List.mem_singleton.mp y] at z
              exact nDD z)
        · rcases List.mem_append.mp ha with y | y
          · exact nD a y
          · rw [List.mem_singleton.mp y]
            exact nDD
    · rintro H1 ⟨s1, fas, hD1, ma, nD⟩
      rw [hlv, List.take_length] at ma
      have fl := ma.ln
      rw [List.length_map] at fl
      refine ⟨_, rfl, _, rfl, by show 1 ≤ sizeLine; decide, fun a1 h1 => ?_⟩
      have e1 := same_new (o := .lst [.int (rvs.length : Int)]) h1
      refine ⟨_, rfl, a1, (L : Int), _, rfl, rfl, upd_same, by omega, by omega, ?_, fun a2 h2 => ?_⟩
      · show 1 * ((L : Int)).toNat ≤ sizeLine
        exact Nat.le_trans (show 1 * ((L : Int)).toNat ≤ 100 by omega) (by decide)
      have er : (List.replicate ((L : Int)).toNat [V.int (rvs.length : Int)]).flatten = (List.replicate L rs.length).map natV := by
        rw [Int.toNat_natCast, List.map_replicate, List.flatten_replicate_singleton, hlv]
        rfl
      rw [er]
      have e2 := same_new (o := .lst ((List.replicate L rs.length).map natV)) h2
      have g2 : (upd (upd H1 a1 (.lst [.int (rvs.length : Int)])) a2 (.lst ((List.replicate L rs.length).map natV))) a2 = some (.lst ((List.replicate L rs.length).map natV)) := upd_same
      have s12 := e1.trans e2
      clear h1 e1 h2 e2
      generalize upd (upd H1 a1 (.lst [.int (rvs.length : Int)])) a2 (.lst ((List.replicate L rs.length).map natV)) = H2 at *
      refine ⟨by show 1 ≤ sizeLine; decide, fun a3 h3 => ?_⟩
      have e3 := same_new (o := .lst [.ref a2]) h3
      refine ⟨D, a3, _, _, rfl, rfl, e3 _ _ (s12 _ _ hD1), upd_same, sz_of (by rw [List.length_map]; show _ + 1 ≤ _; omega), fun p1 H4 s4 _ hp1 => ?_⟩
      have s14 := s12.trans (e3.trans s4)
      have ma4 : MemAt H4 (fas ++ [a2]) (cmpl L rs) := (ma.keep (W := fun _ => False) (Keep.same s14) (fun _ _ z => z)).push ((e3.trans s4) _ _ g2)
      have ep : fas.map V.ref ++ [V.ref a2] = (fas ++ [a2]).map V.ref := by
        rw [List.map_append]
        rfl
      rw [ep] at hp1
      refine ⟨_, rfl, pe, _, rfl, .inl (MM.same (s1.trans s14)).he, fun b1 n1 _ => ?_⟩
      have e5 := same_new (o := .lst (es.map V.bl)) n1
      refine ⟨by show 1 ≤ sizeLine; decide, fun b2 n2 => ?_⟩
      have e6 := same_new (o := .lst [.bl false]) n2
      refine ⟨b1, b2, _, _, rfl, rfl, e6 _ _ upd_same, upd_same, sz_of (by rw [List.length_map, M.es]; show _ + 1 ≤ _; omega), fun p2 H7 s7 _ hp2 => ?_⟩
      have s47 := e5.trans (e6.trans s7)
      refine ⟨by show 2 ≤ sizeLine; decide, fun r nr => ?_⟩
      have e8 := same_new (o := .tup [.ref p1, .ref p2]) nr
      have s48 := s47.trans e8
      have ee : es.map V.bl ++ [V.bl false] = (es ++ [false]).map V.bl := by
        rw [List.map_append]
        rfl
      rw [ee] at hp2
      exact k _ r p1 p2 (fas ++ [a2]) (s1.trans (s14.trans s48)) upd_same (s48 _ _ hp1) (ma4.keep (W := fun _ => False) (Keep.same s48) (fun _ _ z => z)) (e8 _ _ hp2)
end
/-! ### the two functions that apart makes -/
section
open NdefX LamX
variable {P : Program} {w : World} {K : PySem.W.Frag} {mg : Str → Option Value} {base : Heap}
abbrev sGoes : Stmt := (defBody sApartP).getD 3 (.Pass ⟨0, 0, 0, 0⟩)
abbrev sWant : Stmt := (defBody sApartP).getD 4 (.Pass ⟨0, 0, 0, 0⟩)
abbrev NGoes : List Str := ["node", "first", "wide", "second", "item", "beside"]
abbrev NWant : List Str := ["node", "first_ends", "wide", "second_ends"]
theorem nsGoes : NScope NGoes ["node"] ["first", "wide", "second"] (C8.fnScope sGoes) := nscope_by (by decide +kernel)
theorem nsWant : NScope NWant ["node"] ["first_ends", "wide", "second_ends"] (C8.fnScope sWant) := nscope_by (by decide +kernel)
/-- where a pair of states goes, by the letters -/
def gPair (L : Nat) (r1 r2 : Rows) (v : Nat) : List Nat := (List.range L).map fun c => ((cmpl L r1).getD (v / (r2.length + 1)) []).getD c 0 * (r2.length + 1) + ((cmpl L r2).getD (v % (r2.length + 1)) []).getD c 0
def wPair (e1 e2 : List Bool) (v : Nat) : Bool := ((e1 ++ [false]).getD (v / (e2.length + 1)) false) != ((e2 ++ [false]).getD (v % (e2.length + 1)) false)
def GGoes (L : Nat) (r1 r2 : Rows) (ws : List (Option V)) (H : Hp) : Prop := ∃ (p1 p2 : Addr) (fas sas : List Addr), ws = [some (.ref p1), some (.int ((r2.length + 1 : Nat) : Int)), some (.ref p2)] ∧ H p1 = some (.lst (fas.map V.ref)) ∧ MemAt H fas (cmpl L r1) ∧ H p2 = some (.lst (sas.map V.ref)) ∧ MemAt H sas (cmpl L r2)
def GWant (e1 e2 : List Bool) (ws : List (Option V)) (H : Hp) : Prop := ∃ (p1 p2 : Addr), ws = [some (.ref p1), some (.int ((e2.length + 1 : Nat) : Int)), some (.ref p2)] ∧ H p1 = some (.lst ((e1 ++ [false]).map V.bl)) ∧ H p2 = some (.lst ((e2 ++ [false]).map V.bl))
theorem cmpl_len {L : Nat} {rs : Rows} {es : List Bool} (_ : MOk L rs es) : (cmpl L rs).length = rs.length + 1 := by
  unfold cmpl
  rw [List.length_append, List.length_map, List.length_singleton]
theorem cmpl_row {L : Nat} {rs : Rows} {es : List Bool} (M : MOk L rs es) {i : Nat} (hi : i < rs.length + 1) : ((cmpl L rs).getD i []).length = L ∧ ∀ t ∈ (cmpl L rs).getD i [], t < rs.length + 1 := by
  rcases Nat.lt_or_ge i rs.length with l | l
  · have e : (cmpl L rs).getD i [] = (rs[i]).map fun o => o.getD rs.length := by
      unfold cmpl
      rw [List.getD_eq_getElem?_getD, List.getElem?_append_left (by rw [List.length_map]; exact l), List.getElem?_map, List.getElem?_eq_getElem l]
      rfl
    rw [e]
    refine ⟨by rw [List.length_map]; exact M.row _ (List.getElem_mem l), fun t ht => ?_⟩
    obtain ⟨o, ho, rfl⟩ := List.mem_map.mp ht
    cases o with
    | none => exact Nat.lt_succ_self _
    | some s =>
      have := M.tgt _ (List.getElem_mem l) s ho
      show s < rs.length + 1
      omega
  · have e : (cmpl L rs).getD i [] = List.replicate L rs.length := by
      unfold cmpl
      rw [List.getD_eq_getElem?_getD, List.getElem?_append_right (by rw [List.length_map]; exact l), List.length_map, show i - rs.length = 0 by omega]
      rfl
    rw [e]
    refine ⟨List.length_replicate, fun t ht => ?_⟩
    rw [(List.mem_replicate.mp ht).2]
    exact Nat.lt_succ_self _
theorem ok_goes {f : Addr} {F : NF} {cl : List (Str × Addr)} {q : Str} {c' : Addr} (hF : F = NF.of sGoes "goes" q cl c') (T : Mg mg) {L : Nat} {r1 r2 : Rows} {e1 e2 : List Bool} (M1 : MOk L r1 e1) (M2 : MOk L r2 e2) : NOk P w K mg base CX0 1 f F ["node"] ["first", "wide", "second"] (spGoes (GGoes L r1 r2) ((r1.length + 1) * (r2.length + 1)) (gPair L r1 r2)) := by
  subst hF
  refine nok_of nsGoes (fun doc pm ctv us hl => ?_) (fun ws vs H Q E h => ?_) (fun A outer s H vs ws Q E hr hf hc hl h => ?_)
  · match us, hl with
    | [u], _ => rfl
  · obtain ⟨_, v, rfl, _⟩ := h
    rfl
  · obtain ⟨⟨p1, p2, fas, sas, rfl, h1, m1, h2, m2⟩, v, rfl, lv, k⟩ := h
    refine ⟨_, pss_one (ps_ret (pe_lc (own := [("item", 4), ("beside", 5)]) (g := gTup K 2 (gCons (gName 4) (gCons (gName 5) gNil))) (tt := tYes) rfl nsGoes.nd (pi_zip (by rfl) T.zip (pa_cons (pe_ix (r := rIxL K) ix_list (pv 1) (pe_op op_fdiv (pv 0) (pv 2)) (fun _ _ => rfl)) (pa_cons (pe_ix (r := rIxL K) ix_list (pv 3) (pe_op op_mod (pv 0) (pv 2)) (fun _ _ => rfl)) pa_nil))) (blkOk_by (N := NGoes) (sc := C8.fnScope sGoes) (by decide +kernel)) (fun _ _ _ _ _ => pg_tup rfl (pgs_cons (pg_name (i := 4) nsGoes.nd rfl (.inl rfl) (hf := .inr rfl)) (pgs_cons (pg_name (i := 5) nsGoes.nd rfl (.inl rfl) (hf := .inr rfl)) pgs_nil))) (fun _ _ _ _ _ => pts_nil) (fun _ _ _ _ _ => pe_op op_add (pe_op op_mul (pv 4) (pv 2)) (pv 5)))), ?_⟩
    have wp : 0 < r2.length + 1 := by omega
    have l4 := M1.l400
    have l4' := M2.l400
    have L3 := M1.L3
    have hq : v / (r2.length + 1) < r1.length + 1 := Nat.div_lt_of_lt_mul (by rw [Nat.mul_comm]; exact lv)
    have hm : v % (r2.length + 1) < r2.length + 1 := Nat.mod_lt _ wp
    have c1 := cmpl_len M1
    have c2 := cmpl_len M2
    have fl := m1.ln
    have sl := m2.ln
    obtain ⟨f1, hf1⟩ : ∃ f1, fas[v / (r2.length + 1)]? = some f1 := ⟨_, List.getElem?_eq_getElem (by omega)⟩
    obtain ⟨s1, hs1⟩ : ∃ s1, sas[v % (r2.length + 1)]? = some s1 := ⟨_, List.getElem?_eq_getElem (by omega)⟩
    have g1 := m1.at_ _ _ hf1
    have g2 := m2.at_ _ _ hs1
    have a1 := cmpl_row M1 hq
    have a2 := cmpl_row M2 hm
    have e1 : (v : Int) / ((r2.length + 1 : Nat) : Int) = ((v / (r2.length + 1) : Nat) : Int) := (Int.natCast_ediv _ _).symm
    have e2 : (v : Int) % ((r2.length + 1 : Nat) : Int) = ((v % (r2.length + 1) : Nat) : Int) := (Int.natCast_emod _ _).symm
    refine ⟨_, rfl, _, rfl, _, rfl, _, _, rfl, rfl, ⟨by omega, by omega⟩, p1, _, _, V.ref f1, rfl, rfl, SqL.of h1, by rw [e1]; exact atI_nat (by rw [List.getElem?_map, hf1]; rfl), ?_⟩
    refine ⟨_, rfl, _, rfl, _, rfl, _, _, rfl, rfl, by omega, p2, _, _, V.ref s1, rfl, rfl, SqL.of h2, by rw [e2]; exact atI_nat (by rw [List.getElem?_map, hs1]; rfl), ?_⟩
    refine ⟨f1, s1, _, _, rfl, SqL.of g1, SqL.of g2, fun D hD => ?_⟩
    have eg : gPair L r1 r2 v = (List.range L).map fun c => ((cmpl L r1).getD (v / (r2.length + 1)) []).getD c 0 * (r2.length + 1) + ((cmpl L r2).getD (v % (r2.length + 1)) []).getD c 0 := rfl
    generalize (cmpl L r1).getD (v / (r2.length + 1)) [] = A1 at *
    generalize (cmpl L r2).getD (v % (r2.length + 1)) [] = A2 at *
    refine lc_it (walk_zip (a := f1) (b := s1) (xs := A1.map natV) (ys := A2.map natV) (n := L) (by rw [List.length_map, List.length_map, a1.1, a2.1, Nat.min_self])) (fun j H' => Same H H' ∧ H' D = some (.lst (((List.range j).map fun c => A1.getD c 0 * (r2.length + 1) + A2.getD c 0).map natV))) ⟨same_new hD, upd_same⟩ (fun j H' _ p => ⟨SqL.of (p.1 _ _ g1), SqL.of (p.1 _ _ g2)⟩) ?_ ?_
    · rintro j x H1 H2 hj ⟨sm, hl1⟩ ⟨T2, va, vb, rfl, nT, rfl, ea, eb⟩
      obtain ⟨x1, hx1, rfl⟩ := natV_of ea
      obtain ⟨x2, hx2, rfl⟩ := natV_of eb
      have b1 := a1.2 x1 (List.mem_of_getElem? hx1)
      have sT := same_new (o := .tup [V.int (x1 : Int), V.int (x2 : Int)]) nT
      refine ⟨T2, _, rfl, SqT.of upd_same, rfl, _, _, rfl, _, _, rfl, rfl, ?_⟩
      refine ⟨rfl, _, rfl, _, rfl, _, _, rfl, rfl, .inl ⟨by omega, by omega⟩, _, rfl, _, _, rfl, rfl, ?_⟩
      refine ⟨_, sT _ _ hl1, small1000 (by rw [List.length_map, List.length_map, List.length_range]; omega), fun b o e => ?_, ?_⟩
      · rw [upd_ne (ne_of_none e hD)]
        exact sT _ _ (sm _ _ e)
      · rw [upd_same, List.range_succ, List.map_append, List.map_append]
        have d1 : A1.getD j 0 = x1 := by rw [List.getD_eq_getElem?_getD, hx1]; rfl
        have d2 : A2.getD j 0 = x2 := by rw [List.getD_eq_getElem?_getD, hx2]; rfl
        show some (HO.lst (_ ++ [V.int ((x1 : Int) * ((r2.length + 1 : Nat) : Int) + (x2 : Int))])) = some (HO.lst (_ ++ [natV (A1.getD j 0 * (r2.length + 1) + A2.getD j 0)]))
        rw [d1, d2]
        show _ = some (HO.lst (_ ++ [V.int ((x1 * (r2.length + 1) + x2 : Nat) : Int)]))
        rw [show (x1 : Int) * ((r2.length + 1 : Nat) : Int) + (x2 : Int) = ((x1 * (r2.length + 1) + x2 : Nat) : Int) by rw [Int.natCast_add (x1 * (r2.length + 1)) x2, Int.natCast_mul x1 (r2.length + 1)]]
    · rintro H1 ⟨sm, hl1⟩
      exact k H1 D sm hD (by rw [eg]; exact hl1)
theorem ok_want {f : Addr} {F : NF} {cl : List (Str × Addr)} {q : Str} {c' : Addr} (hF : F = NF.of sWant "wanted" q cl c') {L : Nat} {r1 r2 : Rows} {e1 e2 : List Bool} (M1 : MOk L r1 e1) (M2 : MOk L r2 e2) : NOk P w K mg base CX0 1 f F ["node"] ["first_ends", "wide", "second_ends"] (spWant (GWant e1 e2) ((r1.length + 1) * (r2.length + 1)) (wPair e1 e2)) := by
  subst hF
  refine nok_of nsWant (fun doc pm ctv us hl => ?_) (fun ws vs H Q E h => ?_) (fun A outer s H vs ws Q E hr hf hc hl h => ?_)
  · match us, hl with
    | [u], _ => rfl
  · obtain ⟨_, v, rfl, _⟩ := h
    rfl
  · obtain ⟨⟨p1, p2, rfl, h1, h2⟩, v, rfl, lv, k⟩ := h
    refine ⟨_, pss_one (ps_ret (pe_cmpR op_ne (pe_ix (r := rIxL K) ix_list (pv 1) (pe_op op_fdiv (pv 0) (pv 2)) (fun _ _ => rfl)) (pe_ix (r := rIxL K) ix_list (pv 3) (pe_op op_mod (pv 0) (pv 2)) (fun _ _ => rfl)) (nomark _))), ?_⟩
    have d1 := M1.es
    have d2 := M2.es
    have l4' := M2.l400
    have wp : 0 < e2.length + 1 := by omega
    rw [← d1, ← d2] at lv
    have hq : v / (e2.length + 1) < e1.length + 1 := Nat.div_lt_of_lt_mul (by rw [Nat.mul_comm]; exact lv)
    have hm : v % (e2.length + 1) < e2.length + 1 := Nat.mod_lt _ wp
    have i1 : (v : Int) / ((e2.length + 1 : Nat) : Int) = ((v / (e2.length + 1) : Nat) : Int) := (Int.natCast_ediv _ _).symm
    have i2 : (v : Int) % ((e2.length + 1 : Nat) : Int) = ((v % (e2.length + 1) : Nat) : Int) := (Int.natCast_emod _ _).symm
    have at1 : ∀ {xs : List Bool} {i : Nat}, i < xs.length → (xs.map V.bl)[i]? = some (.bl (xs.getD i false)) := fun {xs i} h => by
      rw [List.getElem?_map, getD_at h, List.getElem?_eq_getElem h]
      rfl
    refine ⟨_, rfl, _, rfl, _, rfl, _, _, rfl, rfl, ⟨by omega, by omega⟩, p1, _, _, _, rfl, rfl, SqL.of h1, by rw [i1]; exact atI_nat (at1 (by rw [List.length_append]; exact hq)), ?_⟩
    refine ⟨_, rfl, _, rfl, _, rfl, _, _, rfl, rfl, by omega, p2, _, _, _, rfl, rfl, SqL.of h2, by rw [i2]; exact atI_nat (at1 (by rw [List.length_append]; exact hm)), rfl, ?_⟩
    have ew : (!decide (V.bl ((e1 ++ [false]).getD (v / (e2.length + 1)) false) = V.bl ((e2 ++ [false]).getD (v % (e2.length + 1)) false))) = wPair e1 e2 v := by
      unfold wPair
      cases (e1 ++ [false]).getD (v / (e2.length + 1)) false <;> cases (e2 ++ [false]).getD (v % (e2.length + 1)) false <;> rfl
    rw [ew]
    exact k H (Same.refl _)
end
/-! ### words that tell two machines apart -/
section
open NdefX LamX
variable {P : Program} {w : World} {K : PySem.W.Frag} {mg : Str → Option Value} {base : Heap}
/-- a def whose code object c has the table at T -/
structure FunT (K : PySem.W.Frag) (x qual : Str) (st : Stmt) (f : Addr) (fd : FuncData) (c T : Addr) : Prop where
  ex : ∃ (oc : Value) (od : Option Addr) (kV doc pm : Value) (an : Option Addr) (ct : Value) (osl : Array (Option Value)), fd = PySem.W.fnOf x qual (defArgs st) (defBody st) (defScope st) .none kV doc pm an (.ref c) ct ∧ K.lookup f = some ⟨oc, od, .func fd, osl⟩ ∧ PySem.W.codeIn K (.ref c) qual = true
  kp : PySem.W.keepIn K (.ref f) = true
  hd : PySem.W.codeHdIn K c T = true
  gP : mainGlobals ≠ T
abbrev NApart : List Str := ["one", "other", "first", "first_ends", "second", "second_ends", "wide", "goes", "wanted"]
theorem scApartP : FnScope NApart ["one", "other"] (defScope sApartP) := ⟨rfl, rfl, rfl, by decide +kernel, rfl, by decide +kernel, by decide +kernel⟩
theorem mem_getDn {xs : List Nat} {i d : Nat} (h : i < xs.length) : xs.getD i d ∈ xs := by
  rw [getD_at h]; exact List.getElem_mem _
theorem gPair_lt {L : Nat} {r1 r2 : Rows} {e1 e2 : List Bool} (M1 : MOk L r1 e1) (M2 : MOk L r2 e2) {v : Nat} (hv : v < (r1.length + 1) * (r2.length + 1)) : (gPair L r1 r2 v).length = L ∧ ∀ t ∈ gPair L r1 r2 v, t < (r1.length + 1) * (r2.length + 1) := by
  have hq : v / (r2.length + 1) < r1.length + 1 := Nat.div_lt_of_lt_mul (by rw [Nat.mul_comm]; exact hv)
  have hm : v % (r2.length + 1) < r2.length + 1 := Nat.mod_lt _ (by omega)
  obtain ⟨l1, t1⟩ := cmpl_row M1 hq
  obtain ⟨l2, t2⟩ := cmpl_row M2 hm
  unfold gPair
  refine ⟨by rw [List.length_map, List.length_range], fun t ht => ?_⟩
  obtain ⟨c, hc, rfl⟩ := List.mem_map.mp ht
  have hc := List.mem_range.mp hc
  have a : ((cmpl L r1).getD (v / (r2.length + 1)) []).getD c 0 < r1.length + 1 := t1 _ (mem_getDn (by rw [l1]; exact hc))
  have b : ((cmpl L r2).getD (v % (r2.length + 1)) []).getD c 0 < r2.length + 1 := t2 _ (mem_getDn (by rw [l2]; exact hc))
  generalize ((cmpl L r1).getD (v / (r2.length + 1)) []).getD c 0 = p at *
  generalize ((cmpl L r2).getD (v % (r2.length + 1)) []).getD c 0 = q at *
  have := Nat.mul_le_mul_right (r2.length + 1) (show p + 1 ≤ r1.length + 1 from a)
  rw [Nat.add_mul, Nat.one_mul] at this
  omega
def posOf : Stmt → Pos
  | .FunctionDef _ _ _ _ _ _ _ _ _ p => p
  | _ => ⟨0, 0, 0, 0⟩
def nmA (l _c : Nat) : Str := if l = (posOf sGoes).line then "apart.<locals>.goes" else "apart.<locals>.wanted"
/-- the words, told from their end, that one of two machines has and the other has not -/
def Unl (L : Nat) (r1 r2 : Rows) (e1 e2 : List Bool) (u : List Nat) : Prop := wPair e1 e2 (walkr (gT (gPair L r1 r2)) 0 u) = true
theorem tab_hu {TS : List NTab} {P : Addr} {nm : Nat → Nat → Str} (nd : (TS.map (·.1)).Nodup) (h : (P, nm) ∈ TS) : ∀ p ∈ TS, p.1 = P → p.2 = nm := fun p hp e => by
  obtain ⟨i, hi⟩ := List.mem_iff_getElem?.mp hp
  obtain ⟨j, hj⟩ := List.mem_iff_getElem?.mp h
  have ij := nodup_at nd (b := P) (i := i) (j := j) (by rw [List.getElem?_map, hi]; exact congrArg some e) (by rw [List.getElem?_map, hj]; rfl)
  subst ij
  rw [hi] at hj
  cases hj
  rfl
def spApartP (K : PySem.W.Frag) (TS : List NTab) : Sp := fun vs H Q _ => ∃ (L : Nat) (r1 r2 : Rows) (e1 e2 : List Bool) (x y : V) (B1 B2 : Addr → Prop), vs = [x, y] ∧ Dt B1 K H x (machDt L r1 e1) ∧ Dt B2 K H y (machDt L r2 e2) ∧ MOk L r1 e1 ∧ MOk L r2 e2 ∧ TabsN TS H ∧
  ∀ H' o, ExtN H H' → TabsN TS H' → First (Unl L r1 r2 e1 e2) L o → Q (txO o) H'
theorem ok_apartP {f fCM fFW : Addr} {fd fdCM fdFW : FuncData} {c Pt : Addr} {TS : List NTab} (F : FunT K "apart" "apart" sApartP f fd c Pt) (TBp : TabB base mg c Pt) (hm : (Pt, nmA) ∈ TS) (nd : (TS.map (·.1)).Nodup)
    (CM : FnOk P w K mg base CX0 1 fCM fdCM ["machine"] (spCompl K)) (FCM : Fun K "completed" "completed" sCompl fCM fdCM) (bCM : Binds K fdCM ["machine"] []) (gCM : mg "completed" = some (.ref fCM))
    (FW : CRun P w K mg base 2 fFW fdFW ["start", "goes", "wanted"] (spFirst P w K mg base)) (FFW : Fun K "first_word" "first_word" sFirst fFW fdFW) (bFW : Binds K fdFW ["start", "goes", "wanted"] []) (gFW : mg "first_word" = some (.ref fFW)) (T : Mg mg) :
    FnOk P w K mg base CX0 3 f fd ["one", "other"] (spApartP K TS) := by
  obtain ⟨oc, od, kV, doc, pm, an, ct, osl, rfl, lk, hcd⟩ := F.ex
  refine fn_of lk hcd scApartP (fun vs H Q E h => ?_) (fun A outer s H vs Q E hr h => ?_)
  · obtain ⟨L, r1, r2, e1, e2, x, y, B1, B2, rfl, _⟩ := h
    rfl
  · obtain ⟨L, r1, r2, e1, e2, x, y, B1, B2, rfl, hx, hy, M1, M2, tb, k⟩ := h
    have term : ∃ t, PSs (cxOf CX0 P w K mg base NApart "apart" (defScope sApartP) f (.ref c) A outer s H E).nox (defBody sApartP) t ∧ t { nx := fun _ H' => Q .non H', rt := Q } (start NApart [x, y]) H := by
      refine ⟨_, pss_cons (ps_asg (pe_call CM (hr.mono (by decide)) (by rfl) gCM FCM.kp bCM .nil pass0 (pa_cons (pv 0) pa_nil)) (pg_tup rfl (pgs_cons (pg_name (i := 2) scApartP.nd rfl (.inr rfl)) (pgs_cons (pg_name (i := 3) scApartP.nd rfl (.inr rfl)) pgs_nil))))
        (pss_cons (ps_asg (pe_call CM (hr.mono (by decide)) (by rfl) gCM FCM.kp bCM .nil pass0 (pa_cons (pv 1) pa_nil)) (pg_tup rfl (pgs_cons (pg_name (i := 4) scApartP.nd rfl (.inr rfl)) (pgs_cons (pg_name (i := 5) scApartP.nd rfl (.inr rfl)) pgs_nil))))
        (pss_cons (ps_set (i := 6) scApartP.nd rfl (.inr rfl) (pe_callB (r := rLen K) call_len_seq (by rfl) T.len PySem.boot_len (pa_cons (pv 4) pa_nil)))
        (pss_cons (ps_ndefMS (st := sGoes) (T := TS) (nm := nmA) (i := 7) (by rfl) TBp rfl hm (by kernel_rfl) (tab_hu nd hm) (ndef_free (fr := ["first", "wide", "second"]) (show ndefB (defScope sApartP) (C8.fnScope sGoes) ["first", "wide", "second"] = true from by decide +kernel)) rfl rfl rfl scApartP.nd rfl (.inl rfl) (.inl rfl))
        (pss_cons (ps_ndefMS (st := sWant) (T := TS) (nm := nmA) (i := 8) (by rfl) TBp rfl hm (by kernel_rfl) (tab_hu nd hm) (ndef_free (fr := ["first_ends", "wide", "second_ends"]) (show ndefB (defScope sApartP) (C8.fnScope sWant) ["first_ends", "wide", "second_ends"] = true from by decide +kernel)) rfl rfl rfl scApartP.nd rfl (.inl rfl) (.inl rfl))
        (pss_one (ps_ret (pe_callC FW (fun _ => rfl) (hr.mono (by decide)) (by rfl) gFW FFW.kp bFW (pa_cons pe_int (pa_cons (pv 7) (pa_cons (pv 8) pa_nil)))))))))), ?_⟩
      have nt : ∀ {xs : List V} (ps : Array Value), HO.lst xs ≠ HO.tbl ps := fun ps z => by cases z
      refine ⟨_, rfl, L, r1, e1, x, B1, rfl, hx, M1, fun H1 ra p1 q1 fas s1 hra hp1 m1 hq1 => ?_⟩
      refine ⟨ra, _, rfl, SqT.of hra, rfl, _, _, rfl, _, _, rfl, rfl, ?_⟩
      refine ⟨_, rfl, L, r2, e2, y, B2, rfl, same_dt s1 hy, M2, fun H2 rb p2 q2 sas s2 hrb hp2 m2 hq2 => ?_⟩
      refine ⟨rb, _, rfl, SqT.of hrb, rfl, _, _, rfl, _, _, rfl, rfl, ?_⟩
      have s12 := s1.trans s2
      have hp12 := s2 _ _ hp1
      have hq12 := s2 _ _ hq1
      have m12 := m1.keep (W := fun _ => False) (Keep.same s2) (fun _ _ z => z)
      have tb2 := tb.ext s12
      have c2 := cmpl_len M2
      have sl := m2.ln
      refine ⟨_, rfl, p2, _, rfl, .inl (SqL.of hp2), ?_⟩
      have ew : V.int ((sas.map V.ref).length : Int) = V.int ((r2.length + 1 : Nat) : Int) := by rw [List.length_map, sl, c2]
      refine ⟨tb2, fun fg c1 H3 x3 n3 t3 _ hg3 hc3 => ?_⟩
      refine ⟨t3, fun fw c2' H4 x4 n4 t4 _ hw4 hc4 => ?_⟩
      have x34 := x3.trans x4
      have x24 := (ExtN.of s12).trans x34
      have hg4 := x4 _ _ hg3 (fun ps z => fnO_ne ps z)
      have hcg4 := x4 _ _ hc3 codeO_ne
      have lst4 : ∀ {a : Addr} {xs : List V}, H2 a = some (.lst xs) → H4 a = some (.lst xs) := fun e => x34 _ _ e (fun ps => nt ps)
      have mem4 : ∀ {ma : List Addr} {mem : List (List Nat)}, MemAt H2 ma mem → MemAt H4 ma mem := fun h => ⟨h.ln, fun b a e => lst4 (h.at_ b a e)⟩
      have a1 := lst4 hp12
      have a2 := lst4 hp2
      have b1 := mem4 m12
      have b2 := mem4 m2
      have d1 := lst4 hq12
      have d2 := lst4 hq2
      have tb4 : TabsN TS H4 := t4
      refine ⟨_, rfl, _, rfl, rfl, fun s' outer' clo => ?_⟩
      refine ⟨(r1.length + 1) * (r2.length + 1), L, gPair L r1 r2, wPair e1 e2, fg, fw, _, _, ["node"], ["node"], ["first", "wide", "second"], ["first_ends", "wide", "second_ends"], _, _, GGoes L r1 r2, GWant e1 e2, 0, rfl,
        clo _ fg ["first", "wide", "second"] [2, 6, 4] (fun ok => Caps.made ok (ndef_free (fr := ["first", "wide", "second"]) (show ndefB (defScope sApartP) (C8.fnScope sGoes) ["first", "wide", "second"] = true from by decide +kernel)) (ndef_fr (sc := defScope sApartP) (by decide +kernel)) rfl) hg4 hcg4,
        clo _ fw ["first_ends", "wide", "second_ends"] [3, 6, 5] (fun ok => Caps.made ok (ndef_free (fr := ["first_ends", "wide", "second_ends"]) (show ndefB (defScope sApartP) (C8.fnScope sWant) ["first_ends", "wide", "second_ends"] = true from by decide +kernel)) (ndef_fr (sc := defScope sApartP) (by decide +kernel)) rfl) hw4 hc4,
        ok_goes rfl T M1 M2, ok_want rfl M1 M2, fun H5 s5 => ⟨⟨p1, p2, fas, sas, ?_, s5 _ _ a1, b1.keep (W := fun _ => False) (Keep.same s5) (fun _ _ z => z), s5 _ _ a2, b2.keep (W := fun _ => False) (Keep.same s5) (fun _ _ z => z)⟩, ⟨q1, q2, ?_, s5 _ _ d1, s5 _ _ d2⟩⟩, ?_, fun v hv => ?_, M1.L3, ?_, fun H5 o s5 ho => ?_⟩
      · show [some (V.ref p1), some (V.int ((sas.map V.ref).length : Int)), some (V.ref p2)] = _
        rw [ew]
      · show [some (V.ref q1), some (V.int ((sas.map V.ref).length : Int)), some (V.ref q2)] = _
        rw [ew, M2.es]
      · exact Nat.mul_pos (by omega) (by omega)
      · exact gPair_lt M1 M2 hv
      · have := Nat.mul_le_mul (Nat.succ_le_succ M1.l400) (Nat.succ_le_succ M2.l400)
        exact Nat.le_trans this (by decide)
      · exact k H5 o (x24.trans (ExtN.of s5)) (tb4.ext s5) ho
    obtain ⟨t, h1, h2⟩ := term
    exact ⟨t, h1.nox, h2⟩
end
/-! ### words read from behind -/
def run (rs : Rws) : List Nat → Nat → Option Nat
  | [], s => some s
  | c :: w, s => match nx rs s c with
    | none => none
    | some t => run rs w t
theorem run_cons {rs : Rws} {c s : Nat} {w : List Nat} : run rs (c :: w) s = (nx rs s c).bind (run rs w) := by
  show (match nx rs s c with | none => none | some t => run rs w t) = _
  cases nx rs s c <;> rfl
theorem run_snoc {rs : Rws} {c : Nat} : ∀ (w : List Nat) (s : Nat), run rs (w ++ [c]) s = (run rs w s).bind fun p => nx rs p c
  | [], s => by
    show run rs [c] s = nx rs s c
    rw [run_cons]
    cases nx rs s c <;> rfl
  | d :: w, s => by
    show run rs (d :: (w ++ [c])) s = _
    rw [run_cons, run_cons]
    cases nx rs s d with
    | none => rfl
    | some t => exact run_snoc w t
theorem acc_run {rs : Rws} {es : List Bool} : ∀ (w : List Nat) (s : Nat), acc rs es w s = true ↔ ∃ t, run rs w s = some t ∧ es.getD t false = true
  | [], s => ⟨fun h => ⟨s, rfl, h⟩, fun ⟨t, h1, h2⟩ => by cases h1; exact h2⟩
  | c :: w, s => by
    cases e : nx rs s c with
    | none =>
      rw [acc_none e, run_cons, e]
      exact ⟨fun z => (by cases z), fun ⟨t, h, _⟩ => (by cases h)⟩
    | some t =>
      rw [acc_cons e, run_cons, e]
      exact acc_run w t
theorem nx_at {rs : Rws} {s c t : Nat} : nx rs s c = some t ↔ ∃ row, rs[s]? = some row ∧ row[c]? = some (some t) := by
  unfold nx
  rw [List.getD_eq_getElem?_getD, List.getD_eq_getElem?_getD]
  constructor
  · intro h
    cases e : rs[s]? with
    | none =>
      rw [e] at h
      cases h
    | some row =>
      rw [e, Option.getD_some] at h
      cases e2 : row[c]? with
      | none =>
        rw [e2] at h
        cases h
      | some o =>
        rw [e2] at h
        exact ⟨row, rfl, by rw [e2]; exact congrArg some h⟩
  · rintro ⟨row, h1, h2⟩
    rw [h1, Option.getD_some, h2]
    rfl
theorem reach_run {rs : Rws} {p : Nat} : Reach rs p ↔ ∃ u, run rs u 0 = some p := by
  constructor
  · intro h
    induction h with
    | z => exact ⟨[], rfl⟩
    | s r h1 h2 ih =>
      rename_i u v l row
      obtain ⟨w, hw⟩ := ih
      exact ⟨w ++ [l], by rw [run_snoc, hw]; exact nx_at.mpr ⟨row, h1, h2⟩⟩
  · rintro ⟨u, h⟩
    have key : ∀ (u : List Nat) (s : Nat), Reach rs s → run rs u s = some p → Reach rs p := by
      intro u
      induction u with
      | nil => intro s r h; cases h; exact r
      | cons c u ih =>
        intro s r h
        rw [run_cons] at h
        cases e : nx rs s c with
        | none => rw [e] at h; cases h
        | some t =>
          rw [e] at h
          obtain ⟨row, h1, h2⟩ := nx_at.mp e
          exact ih t (.s r h1 h2) h
    exact key u 0 .z h
theorem reach_on {rs : Rws} {p c s : Nat} (r : Reach rs p) (h : nx rs p c = some s) : Reach rs s := by
  obtain ⟨row, h1, h2⟩ := nx_at.mp h
  exact .s r h1 h2
/-- states are lots of the states of another machine: those from which they lead here from behind -/
structure RV (rs : Rws) (L : Nat) (M : Nat → Nat → Prop) (out : Rws) (oe : List Bool) : Prop where
  wide : ∀ r ∈ out, r.length = L
  wide0 : ∀ r ∈ rs, r.length = L
  en : ∀ i, i < out.length → (oe.getD i false = true ↔ M i 0)
  go : ∀ i c, i < out.length → c < L → (∃ j, j < out.length ∧ nx out i c = some j ∧ ∀ p, Reach rs p → (M j p ↔ ∃ s, nx rs p c = some s ∧ M i s)) ∨ (nx out i c = none ∧ ∀ p s, Reach rs p → nx rs p c = some s → ¬ M i s)
section
variable {rs out : Rws} {L : Nat} {M : Nat → Nat → Prop} {oe es : List Bool}
theorem RV.acc (h : RV rs L M out oe) : ∀ (w : List Nat) (i : Nat), i < out.length → (acc out oe w i = true ↔ ∃ s, run rs w.reverse 0 = some s ∧ M i s)
  | [], i, hi => ⟨fun z => ⟨0, rfl, (h.en i hi).mp z⟩, fun ⟨s, h1, h2⟩ => by cases h1; exact (h.en i hi).mpr h2⟩
  | c :: w, i, hi => by
    rw [List.reverse_cons, run_snoc]
    rcases Nat.lt_or_ge c L with hc | hc
    · rcases h.go i c hi hc with ⟨j, hj, e, he⟩ | ⟨e, he⟩
      · rw [acc_cons e, h.acc w j hj]
        constructor
        · rintro ⟨p, h1, h2⟩
          obtain ⟨s, h3, h4⟩ := (he p (reach_run.mpr ⟨_, h1⟩)).mp h2
          exact ⟨s, by rw [h1]; exact h3, h4⟩
        · rintro ⟨s, h1, h2⟩
          cases e2 : run rs w.reverse 0 with
          | none => rw [e2] at h1; cases h1
          | some p =>
            rw [e2] at h1
            exact ⟨p, rfl, (he p (reach_run.mpr ⟨_, e2⟩)).mpr ⟨s, h1, h2⟩⟩
      · rw [acc_none e]
        refine ⟨fun z => (by cases z), fun ⟨s, h1, h2⟩ => ?_⟩
        cases e2 : run rs w.reverse 0 with
        | none => rw [e2] at h1; cases h1
        | some p =>
          rw [e2] at h1
          exact absurd h2 (he p s (reach_run.mpr ⟨_, e2⟩) h1)
    · have n1 : nx out i c = none := by
        cases e : nx out i c with
        | none => rfl
        | some t =>
          have := (nx_lt h.wide e).2.1
          omega
      rw [acc_none n1]
      refine ⟨fun z => (by cases z), fun ⟨s, h1, h2⟩ => ?_⟩
      cases e2 : run rs w.reverse 0 with
      | none => rw [e2] at h1; cases h1
      | some p =>
        rw [e2] at h1
        have := (nx_lt h.wide0 h1).2.1
        omega
def RevOf (rs : Rws) (es : List Bool) (out : Rws) (oe : List Bool) : Prop := ∀ w, acc out oe w 0 = acc rs es w.reverse 0
theorem RV.rev (h : RV rs L M out oe) (l1 : 1 ≤ out.length) (st : ∀ p, Reach rs p → (M 0 p ↔ es.getD p false = true)) : RevOf rs es out oe := fun w => by
  have e : Ver.acc out oe w 0 = true ↔ Ver.acc rs es w.reverse 0 = true := by
    rw [h.acc w 0 l1, acc_run]
    constructor
    · rintro ⟨s, h1, h2⟩
      exact ⟨s, h1, (st s (reach_run.mpr ⟨_, h1⟩)).mp h2⟩
    · rintro ⟨s, h1, h2⟩
      exact ⟨s, h1, (st s (reach_run.mpr ⟨_, h1⟩)).mpr h2⟩
  exact Bool.eq_iff_iff.mpr e
theorem RV.live (h : RV rs L M out oe) {i : Nat} (hi : i < out.length) {p : Nat} (r : Reach rs p) (m : M i p) : Live out oe i := by
  obtain ⟨u, hu⟩ := reach_run.mp r
  exact ⟨u.reverse, (h.acc u.reverse i hi).mpr ⟨p, by rw [List.reverse_reverse]; exact hu, m⟩⟩
theorem RV.eqv (h : RV rs L M out oe) {i j : Nat} (hi : i < out.length) (hj : j < out.length) (e : Eqv out oe out oe i j) (p : Nat) (r : Reach rs p) : M i p ↔ M j p := by
  obtain ⟨u, hu⟩ := reach_run.mp r
  have h1 := h.acc u.reverse i hi
  have h2 := h.acc u.reverse j hj
  rw [e u.reverse, List.reverse_reverse, hu] at h1
  rw [List.reverse_reverse, hu] at h2
  constructor
  · intro m
    obtain ⟨s, e1, m'⟩ := h2.mp (h1.mpr ⟨p, rfl, m⟩)
    cases e1
    exact m'
  · intro m
    obtain ⟨s, e1, m'⟩ := h1.mp (h2.mpr ⟨p, rfl, m⟩)
    cases e1
    exact m'
end
/-! ### sets as numbers -/
def bitsN (xs : List Nat) : Nat := xs.foldl (fun h s => h ||| 2 ^ s) 0
theorem bits_from (xs : List Nat) : ∀ (a p : Nat), (xs.foldl (fun h s => h ||| 2 ^ s) a).testBit p = (a.testBit p || decide (p ∈ xs)) := by
  induction xs with
  | nil => intro a p; simp
  | cons x xs ih =>
    intro a p
    rw [List.foldl_cons, ih, Nat.testBit_or, Nat.testBit_two_pow, Bool.or_assoc]
    congr 1
    rw [← Bool.decide_or, decide_eq_decide, List.mem_cons]
    constructor
    · rintro (h | h)
      · exact .inl h.symm
      · exact .inr h
    · rintro (h | h)
      · exact .inl h.symm
      · exact .inr h
theorem bits_bit (xs : List Nat) (p : Nat) : (bitsN xs).testBit p = decide (p ∈ xs) := by
  unfold bitsN
  rw [bits_from, Nat.zero_testBit, Bool.false_or]
theorem bits_eq {xs ys : List Nat} (h : ∀ p, p ∈ xs ↔ p ∈ ys) : bitsN xs = bitsN ys := Nat.eq_of_testBit_eq fun i => by
  rw [bits_bit, bits_bit, decide_eq_decide]
  exact h i
def joinN (w : List Nat) (x : Nat) : Nat := (List.range w.length).foldl (fun f s => if x.testBit s then f ||| w.getD s 0 else f) 0
theorem join_from {w : List Nat} {x : Nat} (ss : List Nat) : ∀ (a p : Nat), (ss.foldl (fun f s => if x.testBit s then f ||| w.getD s 0 else f) a).testBit p = true ↔ (a.testBit p = true ∨ ∃ s ∈ ss, x.testBit s = true ∧ (w.getD s 0).testBit p = true) := by
  induction ss with
  | nil => intro a p; exact ⟨.inl, fun h => h.elim id fun ⟨s, h, _⟩ => absurd h List.not_mem_nil⟩
  | cons s ss ih =>
    intro a p
    rw [List.foldl_cons, ih]
    constructor
    · rintro (h | ⟨t, h1, h2⟩)
      · by_cases z : x.testBit s = true
        · rw [if_pos z, Nat.testBit_or, Bool.or_eq_true] at h
          rcases h with h | h
          · exact .inl h
          · exact .inr ⟨s, List.mem_cons_self, z, h⟩
        · rw [if_neg z] at h
          exact .inl h
      · exact .inr ⟨t, List.mem_cons_of_mem _ h1, h2⟩
    · rintro (h | ⟨t, h1, h2, h3⟩)
      · left
        split
        · rw [Nat.testBit_or, h, Bool.true_or]
        · exact h
      · rcases List.mem_cons.mp h1 with e | h1
        · subst e
          left
          rw [if_pos h2, Nat.testBit_or, h3, Bool.or_true]
        · exact .inr ⟨t, h1, h2, h3⟩
theorem join_bit {w : List Nat} {x p : Nat} : (joinN w x).testBit p = true ↔ ∃ s, s < w.length ∧ x.testBit s = true ∧ (w.getD s 0).testBit p = true := by
  unfold joinN
  rw [join_from, Nat.zero_testBit]
  constructor
  · rintro (h | ⟨s, h1, h2⟩)
    · cases h
    · exact ⟨s, List.mem_range.mp h1, h2⟩
  · rintro ⟨s, h1, h2⟩
    exact .inr ⟨s, List.mem_range.mpr h1, h2⟩
theorem bit_lt {x n : Nat} (h : ∀ p, x.testBit p = true → p < n) : x < 2 ^ n := Nat.lt_pow_two_of_testBit x fun i hi => by
  cases e : x.testBit i with
  | false => rfl
  | true =>
    have := h i e
    omega
theorem bit_ne {x : Nat} (h : x ≠ 0) : ∃ p, x.testBit p = true := Nat.exists_testBit_of_ne_zero h
def bStep (w : List Nat) (held : Nat) (a : List Nat × List (Option Nat)) : List Nat × List (Option Nat) :=
  if joinN w held = 0 then (a.1, a.2 ++ [none])
  else if joinN w held ∈ a.1 then (a.1, a.2 ++ [some (a.1.idxOf (joinN w held))])
  else (a.1 ++ [joinN w held], a.2 ++ [some a.1.length])
def bRow (ways : List (List Nat)) (held : Nat) (sets : List Nat) : List Nat × List (Option Nat) := ways.foldl (fun a w => bStep w held a) (sets, [])
def bRun (ways : List (List Nat)) : Nat → List Nat → Rws → Option (List Nat × Rws)
  | 0, _, _ => none
  | f + 1, sets, done => match sets[done.length]? with
    | none => some (sets, done)
    | some held => if 400 < (bRow ways held sets).1.length then none else bRun ways f (bRow ways held sets).1 (done ++ [(bRow ways held sets).2])
def waysN (L : Nat) (rs : Rws) (ord : List Nat) : List (List Nat) := (List.range L).map fun c => (List.range rs.length).map fun t => bitsN (ord.filter fun s => decide (nx rs s c = some t))
def startN (es : List Bool) (ord : List Nat) : Nat := bitsN (ord.filter fun s => es.getD s false)
/-! ### words of machines -/
theorem occ_abc {c : Nat} (h : c < 3) : Builtin.Str.occurrences "abc" ⟨#[97 + c]⟩ 0 ("abc" : Str).length 1 = [c] := by
  have : c = 0 ∨ c = 1 ∨ c = 2 := by omega
  rcases this with rfl | rfl | rfl <;> decide +kernel
theorem run_append {rs : Rws} {b : List Nat} : ∀ (a : List Nat) (s : Nat), run rs (a ++ b) s = (run rs a s).bind (run rs b)
  | [], s => rfl
  | c :: a, s => by
    show run rs (c :: (a ++ b)) s = _
    rw [run_cons, run_cons]
    cases nx rs s c with
    | none => rfl
    | some t => exact run_append a t
theorem run_take {rs : Rws} {w : List Nat} {i c s : Nat} (h : w[i]? = some c) : run rs (w.take (i + 1)) s = (run rs (w.take i) s).bind fun u => nx rs u c := by
  rw [List.take_add_one, h]
  exact run_snoc _ _
theorem run_stop {rs : Rws} {es : List Bool} {w : List Nat} {i : Nat} (h : run rs (w.take i) 0 = none) : acc rs es w 0 = false := by
  cases e : acc rs es w 0 with
  | false => rfl
  | true =>
    obtain ⟨t, h1, _⟩ := (acc_run w 0).mp e
    rw [← List.take_append_drop i w, run_append, h] at h1
    cases h1
theorem MOk.nx_lt {L : Nat} {rs : Rows} {es : List Bool} (M : MOk L rs es) {s c t : Nat} (h : nx rs s c = some t) : t < rs.length := by
  obtain ⟨_, _, row, hr, hm⟩ := Ver.nx_lt M.row h
  exact M.tgt row hr t hm
theorem MOk.run_lt {L : Nat} {rs : Rows} {es : List Bool} (M : MOk L rs es) {t : Nat} (w : List Nat) (h : run rs w 0 = some t) : t < rs.length := M.reach_lt t (reach_run.mpr ⟨w, h⟩)
theorem acc_end {rs : Rws} {es : List Bool} {w : List Nat} {t : Nat} (h : run rs w 0 = some t) : acc rs es w 0 = es.getD t false := by
  rw [Bool.eq_iff_iff, acc_run, h]
  exact ⟨fun ⟨_, e, z⟩ => by cases e; exact z, fun z => ⟨t, rfl, z⟩⟩
def endO (es : List Bool) : Option Nat → Bool
  | none => false
  | some u => es.getD u false
theorem endO_acc {rs : Rws} {es : List Bool} {w : List Nat} : endO es (run rs w 0) = acc rs es w 0 := by
  cases e : run rs w 0 with
  | none =>
    have := run_stop (es := es) (w := w) (i := w.length) (rs := rs) (by rw [List.take_length]; exact e)
    rw [this]
    rfl
  | some t => exact (acc_end e).symm
theorem row_oV {L : Nat} {rs : Rows} {es : List Bool} (M : MOk L rs es) {u c : Nat} (hu : u < rs.length) (hc : c < L) : ∃ row, rs[u]? = some row ∧ (row.map oV)[c]? = some (oV (nx rs u c)) := by
  refine ⟨rs[u], List.getElem?_eq_getElem hu, ?_⟩
  have hr := M.row _ (List.getElem_mem hu)
  have hc' : c < rs[u].length := by omega
  have e : nx rs u c = rs[u][c] := by
    unfold nx
    rw [getD_at hu, getD_at hc']
  rw [e, List.getElem?_map, List.getElem?_eq_getElem hc']
  rfl
theorem end_bl {L : Nat} {rs : Rows} {es : List Bool} (M : MOk L rs es) {u : Nat} (hu : u < rs.length) : (es.map V.bl)[u]? = some (.bl (es.getD u false)) := by
  have hu' : u < es.length := by rw [M.es]; exact hu
  rw [List.getElem?_map, getD_at hu', List.getElem?_eq_getElem hu']
  rfl
def wS (w : List Nat) : Str := mkS (w.map (97 + ·))
theorem wS_at {w : List Nat} {i x : Nat} (h : (wS w).cps[i]? = some x) : ∃ c, w[i]? = some c ∧ x = 97 + c := by
  have h : ((w.map (97 + ·)).toArray)[i]? = some x := h
  rw [List.getElem?_toArray, List.getElem?_map] at h
  obtain ⟨c, h1, h2⟩ := Option.map_eq_some_iff.mp h
  exact ⟨c, h1, h2.symm⟩
theorem wS_len (w : List Nat) : (wS w).cps.size = w.length := by
  show ((w.map (97 + ·)).toArray).size = _
  rw [List.size_toArray, List.length_map]

section
variable {P : Program} {w : World} {K : PySem.W.Frag} {mg : Str → Option Value} {base : Heap}
theorem scIsOf : FnScope ["machine", "word", "_", "rows", "ends", "state", "sign"] ["machine", "word"] (defScope sIsOf) := ⟨rfl, rfl, rfl, by decide +kernel, rfl, by decide +kernel, by decide +kernel⟩
def spIsOf (K : PySem.W.Frag) : Sp := fun vs H Q _ => ∃ (B : Addr → Prop) (v : V) (L : Nat) (rs : Rows) (es : List Bool) (w : List Nat), vs = [v, .str (wS w)] ∧ Dt B K H v (machDt L rs es) ∧ MOk L rs es ∧ Wl L w ∧ Q (.bl (acc rs es w 0)) H
theorem ok_isOf {f : Addr} {fd : FuncData} (F : Fun K "is_of" "is_of" sIsOf f fd) (T : Mg mg) : FnOk P w K mg base CX0 1 f fd ["machine", "word"] (spIsOf K) := by
  refine F.ok scIsOf (fun vs H Q E h => ?_) (fun cdv A outer s H vs Q E hr h => ?_)
  · obtain ⟨B, v, L, rs, es, z, rfl, _⟩ := h
    rfl
  · obtain ⟨B, v, L, rs, es, z, rfl, hd, M, wl, k⟩ := h
    obtain ⟨tt, le⟩ := T.le
    obtain ⟨m, pr, pe, rvs, rfl, nb, ma⟩ := dt_mach hd
    have L3 := M.L3
    refine ⟨_, (pss_cons (ps_asg (pv 0) (pg_tup rfl (pgs_cons (pg_name (i := 2) scIsOf.nd rfl (.inl rfl)) (pgs_cons (pg_name (i := 3) scIsOf.nd rfl (.inl rfl)) (pgs_cons (pg_name (i := 4) scIsOf.nd rfl (.inl rfl)) pgs_nil)))))
      (pss_cons (ps_set (i := 5) scIsOf.nd rfl (.inl rfl) pe_int)
      (pss_cons (ps_for PassesOwn.never rfl (pi_str (pv 1)) (pg_name (i := 6) scIsOf.nd rfl (.inl rfl)) (pss_cons (ps_set (i := 5) scIsOf.nd rfl (.inl rfl) (pe_ix (r := rIxT K) ix_tup (pe_ix (r := rIxT K) ix_tup (pv 3) (pv 5) (fun _ _ => rfl)) (pe_bm PySem.F.plainAttrs_str PySem.F.slot_str_index PySem.F.type_str_index mt_sindex (pe_glob (v := .str "abc") (by rfl) le ⟨_, rfl⟩) (pa_cons (pv 6) pa_nil)) (fun _ _ => rfl)))
      (pss_one (ps_if (pt_cmp (pc_isN (pv 5))) (pss_one (ps_ret pe_bl)) pss_nil))))
      (pss_one (ps_ret (pe_ix (r := rIxT K) ix_tup (pv 4) (pv 5) (fun _ _ => rfl))))))), ?_⟩
    refine ⟨_, rfl, m, _, rfl, .inl ma.hm, rfl, _, _, rfl, _, _, rfl, _, _, rfl, rfl, ?_⟩
    refine ⟨_, rfl, wS z, rfl, ?_⟩
    refine for_it walk_str (fun i σ H' => ∃ u : Nat, (∃ y6, σ = [some (.ref m), some (.str (wS z)), some (.int (L : Int)), some (.ref pr), some (.ref pe), some (.int (u : Int)), y6]) ∧ H' = H ∧ u < rs.length ∧ run rs (z.take i) 0 = some u) ⟨0, ⟨none, rfl⟩, rfl, M.l1, rfl⟩ (fun _ _ _ _ _ => True.intro) ?_ ?_
    · rintro i x σ H1 H2 hi ⟨u, ⟨y6, rfl⟩, rfl, hu, hg⟩ ⟨rfl, x, hcz, rfl⟩
      obtain ⟨c, hc, rfl⟩ := wS_at hcz
      have hl := wl c (List.mem_of_getElem? hc)
      obtain ⟨row, hrow, e3⟩ := row_oV M hu hl
      obtain ⟨q, e1, e2⟩ := ma.row u row hrow
      refine ⟨_, rfl, _, rfl, pr, _, _, .ref q, rfl, rfl, .inl ma.hr, atI_nat e1, rfl, _, rfl, "abc", _, c, [], rfl, rfl, occ_abc (by omega), q, _, _, oV (nx rs u c), rfl, rfl, .inl e2, atI_nat e3, ?_⟩
      have hs := run_take (rs := rs) (s := 0) hc
      rw [hg] at hs
      have hs : run rs (z.take (i + 1)) 0 = nx rs u c := hs
      cases e4 : nx rs u c with
      | none =>
        rw [e4] at hs
        rw [run_stop hs] at k
        exact ⟨_, rfl, _, rfl, ite2 (fun _ => k) (fun q => absurd (decide_eq_true rfl) q)⟩
      | some v =>
        rw [e4] at hs
        refine ⟨_, rfl, _, rfl, ite2 (fun q => ?_) (fun _ => ?_)⟩
        · cases of_decide_eq_true q
        exact ⟨v, ⟨_, rfl⟩, rfl, M.nx_lt e4, hs⟩
    · rintro σ H1 ⟨u, ⟨y6, rfl⟩, rfl, hu, hg⟩
      rw [wS_len, List.take_length] at hg
      rw [acc_end hg] at k
      exact ⟨_, rfl, _, rfl, pe, _, _, .bl (es.getD u false), rfl, rfl, .inl ma.he, atI_nat (end_bl M hu), k⟩
end
section
variable {P : Program} {w : World} {K : PySem.W.Frag} {mg : Str → Option Value} {base : Heap}
end
def cdP (n1 n2 : Nat) (p : Option Nat × Option Nat) : Nat := p.1.getD n1 * (n2 + 1) + p.2.getD n2
def POk (n1 n2 : Nat) (p : Option Nat × Option Nat) : Prop := (∀ u, p.1 = some u → u < n1) ∧ ∀ u, p.2 = some u → u < n2
def nxP (r1 r2 : Rws) (p : Option Nat × Option Nat) (c : Nat) : Option Nat × Option Nat := (p.1.bind fun u => nx r1 u c, p.2.bind fun u => nx r2 u c)
theorem optD_le {n : Nat} {o : Option Nat} (h : ∀ u, o = some u → u < n) : o.getD n < n + 1 := by
  cases o with
  | none => exact Nat.lt_succ_self _
  | some u =>
    have := h u rfl
    show u < n + 1
    omega
theorem optD_inj {n : Nat} {o p : Option Nat} (h : ∀ u, o = some u → u < n) (g : ∀ u, p = some u → u < n) (e : o.getD n = p.getD n) : o = p := by
  cases o with
  | none =>
    cases p with
    | none => rfl
    | some v =>
      have := g v rfl
      have e : n = v := e
      omega
  | some u =>
    have hu := h u rfl
    cases p with
    | none =>
      have e : u = n := e
      omega
    | some v => exact congrArg some e
section
variable {n1 n2 L : Nat} {p q : Option Nat × Option Nat} {r1 r2 : Rows} {e1 e2 : List Bool}
theorem cd_div (h : POk n1 n2 p) : cdP n1 n2 p / (n2 + 1) = p.1.getD n1 ∧ cdP n1 n2 p % (n2 + 1) = p.2.getD n2 := by
  have l := optD_le h.2
  unfold cdP
  rw [Nat.mul_comm]
  refine ⟨?_, ?_⟩
  · rw [Nat.mul_add_div (by omega), Nat.div_eq_of_lt l, Nat.add_zero]
  · rw [Nat.mul_add_mod, Nat.mod_eq_of_lt l]
theorem cd_inj (h : POk n1 n2 p) (g : POk n1 n2 q) (e : cdP n1 n2 p = cdP n1 n2 q) : p = q := by
  obtain ⟨a1, a2⟩ := cd_div h
  obtain ⟨b1, b2⟩ := cd_div g
  rw [e] at a1 a2
  exact Prod.ext (optD_inj h.1 g.1 (a1.symm.trans b1)) (optD_inj h.2 g.2 (a2.symm.trans b2))
theorem cd_lt (h : POk n1 n2 p) : cdP n1 n2 p < (n1 + 1) * (n2 + 1) := by
  have a := optD_le h.1
  have b := optD_le h.2
  unfold cdP
  have := Nat.mul_le_mul_right (n2 + 1) (show p.1.getD n1 + 1 ≤ n1 + 1 from a)
  rw [Nat.add_mul, Nat.one_mul] at this
  omega
theorem nxP_ok (M1 : MOk L r1 e1) (M2 : MOk L r2 e2) (c : Nat) : POk r1.length r2.length (nxP r1 r2 p c) := by
  refine ⟨fun u h => ?_, fun u h => ?_⟩
  · obtain ⟨s, _, e⟩ := Option.bind_eq_some_iff.mp h
    exact M1.nx_lt e
  · obtain ⟨s, _, e⟩ := Option.bind_eq_some_iff.mp h
    exact M2.nx_lt e
theorem cmpl_at (M : MOk L r1 e1) {o : Option Nat} {c : Nat} (h : ∀ u, o = some u → u < r1.length) (hc : c < L) : ((cmpl L r1).getD (o.getD r1.length) []).getD c 0 = (o.bind fun u => nx r1 u c).getD r1.length := by
  cases o with
  | none =>
    have e : (cmpl L r1).getD r1.length [] = List.replicate L r1.length := by
      unfold cmpl
      rw [List.getD_eq_getElem?_getD, List.getElem?_append_right (by rw [List.length_map]; exact Nat.le_refl _), List.length_map, Nat.sub_self]
      rfl
    show ((cmpl L r1).getD r1.length []).getD c 0 = r1.length
    rw [e, List.getD_eq_getElem?_getD, List.getElem?_replicate, if_pos hc]
    rfl
  | some u =>
    have l := h u rfl
    have e : (cmpl L r1).getD u [] = (r1[u]).map fun o => o.getD r1.length := by
      unfold cmpl
      rw [List.getD_eq_getElem?_getD, List.getElem?_append_left (by rw [List.length_map]; exact l), List.getElem?_map, List.getElem?_eq_getElem l]
      rfl
    have hr := M.row _ (List.getElem_mem l)
    have hc' : c < (r1[u]).length := by omega
    show ((cmpl L r1).getD u []).getD c 0 = (nx r1 u c).getD r1.length
    rw [e, List.getD_eq_getElem?_getD, List.getElem?_map, List.getElem?_eq_getElem hc']
    have : nx r1 u c = (r1[u])[c] := by
      unfold nx
      rw [getD_at l, getD_at hc']
    rw [this]
    rfl
theorem gT_cd (M1 : MOk L r1 e1) (M2 : MOk L r2 e2) (h : POk r1.length r2.length p) {c : Nat} (hc : c < L) : gT (gPair L r1 r2) (cdP r1.length r2.length p) c = cdP r1.length r2.length (nxP r1 r2 p c) := by
  unfold gT gPair
  rw [List.getD_eq_getElem?_getD, List.getElem?_map, List.getElem?_range hc]
  show ((cmpl L r1).getD (cdP r1.length r2.length p / (r2.length + 1)) []).getD c 0 * (r2.length + 1) + ((cmpl L r2).getD (cdP r1.length r2.length p % (r2.length + 1)) []).getD c 0 = _
  rw [(cd_div h).1, (cd_div h).2, cmpl_at M1 h.1 hc, cmpl_at M2 h.2 hc]
  rfl
theorem end_cd (M : MOk L r1 e1) {o : Option Nat} (h : ∀ u, o = some u → u < r1.length) : (e1 ++ [false]).getD (o.getD r1.length) false = endO e1 o := by
  have le := M.es
  cases o with
  | none =>
    show (e1 ++ [false]).getD r1.length false = false
    rw [List.getD_eq_getElem?_getD, List.getElem?_append_right (by omega), show r1.length - e1.length = 0 by omega]
    rfl
  | some u =>
    have := h u rfl
    show (e1 ++ [false]).getD u false = e1.getD u false
    rw [List.getD_eq_getElem?_getD, List.getElem?_append_left (by omega), ← List.getD_eq_getElem?_getD]
theorem wP_cd (M1 : MOk L r1 e1) (M2 : MOk L r2 e2) (h : POk r1.length r2.length p) : wPair e1 e2 (cdP r1.length r2.length p) = (endO e1 p.1 != endO e2 p.2) := by
  unfold wPair
  rw [M2.es, (cd_div h).1, (cd_div h).2, end_cd M1 h.1, end_cd M2 h.2]
theorem walk_cd (M1 : MOk L r1 e1) (M2 : MOk L r2 e2) : ∀ u : List Nat, Wl L u → walkr (gT (gPair L r1 r2)) 0 u = cdP r1.length r2.length (run r1 u.reverse 0, run r2 u.reverse 0) ∧ POk r1.length r2.length (run r1 u.reverse 0, run r2 u.reverse 0)
  | [], _ => ⟨(Nat.zero_mul _).symm.trans (Nat.add_zero _).symm, fun u e => by cases e; exact M1.l1, fun u e => by cases e; exact M2.l1⟩
  | c :: u, hw => by
    obtain ⟨a, b⟩ := walk_cd M1 M2 u fun x hx => hw x (List.mem_cons_of_mem _ hx)
    rw [List.reverse_cons, run_snoc, run_snoc]
    refine ⟨?_, nxP_ok (p := (run r1 u.reverse 0, run r2 u.reverse 0)) M1 M2 c⟩
    show gT (gPair L r1 r2) (walkr (gT (gPair L r1 r2)) 0 u) c = _
    rw [a, gT_cd M1 M2 b (hw c List.mem_cons_self)]
    rfl
/-- the predicate of apart, by words -/
theorem unl_iff (M1 : MOk L r1 e1) (M2 : MOk L r2 e2) {u : List Nat} (hu : Wl L u) : Unl L r1 r2 e1 e2 u ↔ acc r1 e1 u.reverse 0 ≠ acc r2 e2 u.reverse 0 := by
  obtain ⟨a, b⟩ := walk_cd M1 M2 u hu
  unfold Unl
  rw [a, wP_cd M1 M2 b]
  show (endO e1 (run r1 u.reverse 0) != endO e2 (run r2 u.reverse 0)) = true ↔ _
  rw [endO_acc, endO_acc]
  exact bne_iff_ne
end
section
variable {gt : Nat → Nat → Nat} {wt : Nat → Bool} {L v0 : Nat} {nodes : List Nat} {reps : List (List Nat)} {p : Nat}
/-- words whose nodes are looked at one after another: the first one that is wanted -/
theorem Bfs.hit (h : Bfs gt (fun _ => false) L v0 nodes reps p 0) {vp : Nat} {rp : List Nat} (hv : nodes[p]? = some vp) (hp : reps[p]? = some rp) (hw : wt vp = true) (hn : ∀ i v, i < p → nodes[i]? = some v → wt v = false) : First (fun u => wt (walkr gt v0 u) = true) L (some rp) := by
  obtain ⟨w1, w2⟩ := h.wk p vp rp hv hp
  refine ⟨w2, by show wt (walkr gt v0 rp) = true; rw [w1]; exact hw, fun u hu s z => ?_⟩
  obtain ⟨j, r, h1, h2, h3⟩ := h.all hp u hu (sl_trans s (sl_cons rp 0))
  have sr : Sl r rp := by
    rcases h3 with h3 | h3
    · exact sl_trans h3 s
    · rw [h3]
      exact s
  have jp : j < p := by
    rcases Nat.lt_trichotomy j p with l | l | l
    · exact l
    · subst l
      rw [hp] at h2
      cases h2
      exact absurd sr (sl_irr _)
    · exact absurd (sl_trans sr (sl_at h.srt hp h2 l)) (sl_irr _)
  have := hn j _ jp h1
  have z : wt (walkr gt v0 u) = true := z
  rw [this] at z
  cases z
theorem Bfs.nothing (h : Bfs gt (fun _ => false) L v0 nodes reps p 0) (hp : nodes.length ≤ p) (hn : ∀ i v, i < p → nodes[i]? = some v → wt v = false) : First (fun u => wt (walkr gt v0 u) = true) L none := by
  have hno : ∀ v ∈ nodes, wt v = false := fun v hv => by
    obtain ⟨i, hi⟩ := List.mem_iff_getElem?.mp hv
    have := (List.getElem?_eq_some_iff.mp hi).1
    exact hn i v (by omega) hi
  have h' : Bfs gt wt L v0 nodes reps p 0 := ⟨h.ln, h.nd, h.zn, h.zr, h.wk, hno, h.srt, h.org, h.cov⟩
  exact h'.none_ hp
end
theorem while_m {c : TT} {tb : TS} {D : Ends} {σ : L2.St} {H : Hp} (W : Nat → L2.St → Hp → Prop) (h0 : ∃ m, W m σ H)
    (hs : ∀ m σ H, W m σ H → c σ H fun b H1 => if b = true then tb { D with nx := fun σ' H' => ∃ m', m' < m ∧ W m' σ' H', ct := fun σ' H' => ∃ m', m' < m ∧ W m' σ' H', bk := D.nx } σ H1 else D.nx σ H1)
    (mono : ∀ σ H Q Q', (∀ b H1, Q b H1 → Q' b H1) → c σ H Q → c σ H Q') : tWhile c tb D σ H := by
  refine ⟨W, h0, fun m σ H p => mono σ H _ _ (fun b H1 q => ?_) (hs m σ H p)⟩
  cases b with
  | true => exact ⟨_, fun σ' H' z => z, q⟩
  | false => exact q
/-! ### two machines side by side, by pairs of states -/
/-- nodes in the order in which they came, rows by their places -/
structure PI (g : Nat → List Nat) (L : Nat) (ns : List Nat) (rows : List (List Nat)) : Prop where
  nd : ns.Nodup
  z : ns[0]? = some 0
  le : rows.length ≤ ns.length
  row : ∀ (i v : Nat) (r : List Nat), rows[i]? = some r → ns[i]? = some v → r.length = L ∧ ∀ c, c < L → ns[r.getD c 0]? = some (gT g v c)
  rch : ∀ v ∈ ns, ∃ u, Wl L u ∧ walkr (gT g) 0 u = v
theorem pi_start {g : Nat → List Nat} {L : Nat} : PI g L [0] [] where
  nd := List.nodup_cons.mpr ⟨List.not_mem_nil, List.nodup_nil⟩
  z := rfl
  le := Nat.zero_le _
  row := fun i v r h => by cases h
  rch := fun v hv => ⟨[], fun c hc => absurd hc List.not_mem_nil, (List.mem_singleton.mp hv).symm⟩
theorem pi_grow {g : Nat → List Nat} {L : Nat} {ns : List Nat} {rows : List (List Nat)} (h : PI g L ns rows) {t : Nat} (ht : t ∉ ns) (hr : ∃ u, Wl L u ∧ walkr (gT g) 0 u = t) : PI g L (ns ++ [t]) rows where
  nd := List.nodup_append.mpr ⟨h.nd, List.nodup_cons.mpr ⟨List.not_mem_nil, List.nodup_nil⟩, fun a ha b hb e => ht (by rw [List.mem_singleton.mp hb] at e; exact e ▸ ha)⟩
  z := by
    rw [List.getElem?_append_left (List.getElem?_eq_some_iff.mp h.z).1]
    exact h.z
  le := by
    rw [List.length_append]
    have := h.le
    omega
  row := fun i v r hi hv => by
    have il := (List.getElem?_eq_some_iff.mp hi).1
    have := h.le
    rw [List.getElem?_append_left (by omega)] at hv
    obtain ⟨a, b⟩ := h.row i v r hi hv
    exact ⟨a, fun c hc => by
      have e := b c hc
      rw [List.getElem?_append_left (List.getElem?_eq_some_iff.mp e).1]
      exact e⟩
  rch := fun v hv => by
    rcases List.mem_append.mp hv with hv | hv
    · exact h.rch v hv
    · rw [List.mem_singleton.mp hv]
      exact hr
theorem pi_row {g : Nat → List Nat} {L v : Nat} {ns : List Nat} {rows : List (List Nat)} {r : List Nat} (h : PI g L ns rows) (hv : ns[rows.length]? = some v) (hl : r.length = L) (hr : ∀ c, c < L → ns[r.getD c 0]? = some (gT g v c)) : PI g L ns (rows ++ [r]) where
  nd := h.nd
  z := h.z
  le := by
    rw [List.length_append]
    have := (List.getElem?_eq_some_iff.mp hv).1
    show rows.length + 1 ≤ _
    omega
  row := fun i v' r' hi hv' => by
    rcases Nat.lt_or_ge i rows.length with l | l
    · rw [List.getElem?_append_left l] at hi
      exact h.row i v' r' hi hv'
    · have hl2 := (List.getElem?_eq_some_iff.mp hi).1
      rw [List.length_append, List.length_singleton] at hl2
      have e : i = rows.length := by omega
      subst e
      rw [List.getElem?_append_right (Nat.le_refl _), Nat.sub_self] at hi
      cases hi
      rw [hv] at hv'
      cases hv'
      exact ⟨hl, hr⟩
  rch := h.rch
def pRows (rows : List (List Nat)) : Rws := rows.map fun r => r.map some
section
variable {g : Nat → List Nat} {L : Nat} {ns : List Nat} {rows : List (List Nat)}
theorem p_nx (h : PI g L ns rows) (hn : rows.length = ns.length) {i v c : Nat} (hv : ns[i]? = some v) (hc : c < L) : ∃ j, nx (pRows rows) i c = some j ∧ ns[j]? = some (gT g v c) := by
  have il := (List.getElem?_eq_some_iff.mp hv).1
  obtain ⟨r, hr⟩ : ∃ r, rows[i]? = some r := ⟨_, List.getElem?_eq_getElem (by omega)⟩
  obtain ⟨a, b⟩ := h.row i v r hr hv
  refine ⟨r.getD c 0, ?_, b c hc⟩
  have cl : c < r.length := by omega
  have e : (pRows rows)[i]? = some (r.map some) := by
    unfold pRows
    rw [List.getElem?_map, hr]
    rfl
  unfold nx
  rw [List.getD_eq_getElem?_getD, List.getD_eq_getElem?_getD, e]
  show ((r.map some)[c]?).getD none = _
  rw [List.getElem?_map, List.getElem?_eq_getElem cl, getD_at cl]
  rfl
theorem p_run (h : PI g L ns rows) (hn : rows.length = ns.length) : ∀ u : List Nat, Wl L u → ∃ j, run (pRows rows) u.reverse 0 = some j ∧ ns[j]? = some (walkr (gT g) 0 u)
  | [], _ => ⟨0, rfl, h.z⟩
  | c :: u, hw => by
    obtain ⟨j, e1, e2⟩ := p_run h hn u fun x hx => hw x (List.mem_cons_of_mem _ hx)
    obtain ⟨k, e3, e4⟩ := p_nx h hn e2 (hw c List.mem_cons_self)
    refine ⟨k, ?_, e4⟩
    rw [List.reverse_cons, run_snoc, e1]
    exact e3
theorem p_ok (h : PI g L ns rows) (hn : rows.length = ns.length) (hN : ns.length ≤ 200000) (L1 : 1 ≤ L) (L3 : L ≤ 3) : GOk L (pRows rows) := by
  have z0 := (List.getElem?_eq_some_iff.mp h.z).1
  have ln : (pRows rows).length = ns.length := by
    unfold pRows
    rw [List.length_map]
    exact hn
  refine ⟨by omega, by omega, fun row hrow => ?_, fun row hrow v hv => ?_, L1, by omega⟩
  · unfold pRows at hrow
    obtain ⟨r, hr, rfl⟩ := List.mem_map.mp hrow
    obtain ⟨i, hi⟩ := List.mem_iff_getElem?.mp hr
    have il := (List.getElem?_eq_some_iff.mp hi).1
    rw [List.length_map]
    exact (h.row i _ r hi (List.getElem?_eq_getElem (by omega))).1
  · unfold pRows at hrow
    obtain ⟨r, hr, rfl⟩ := List.mem_map.mp hrow
    obtain ⟨i, hi⟩ := List.mem_iff_getElem?.mp hr
    have il := (List.getElem?_eq_some_iff.mp hi).1
    obtain ⟨a, b⟩ := h.row i _ r hi (List.getElem?_eq_getElem (by omega))
    obtain ⟨x, hx, e⟩ := List.mem_map.mp hv
    cases e
    obtain ⟨c, hc⟩ := List.mem_iff_getElem?.mp hx
    have cl := (List.getElem?_eq_some_iff.mp hc).1
    have e := b c (by omega)
    rw [List.getD_eq_getElem?_getD, hc] at e
    rw [ln]
    exact (List.getElem?_eq_some_iff.mp e).1
end
/-- the ends of pairs, by g of both ends -/
def pEnd (g : Bool → Bool → Bool) (e1 e2 : List Bool) (v : Nat) : Bool := g ((e1 ++ [false]).getD (v / (e2.length + 1)) false) ((e2 ++ [false]).getD (v % (e2.length + 1)) false)
section
variable {L : Nat} {r1 r2 : Rows} {e1 e2 : List Bool} {ns : List Nat} {rows : List (List Nat)} {g : Bool → Bool → Bool}
theorem pEnd_cd (M1 : MOk L r1 e1) (M2 : MOk L r2 e2) {p : Option Nat × Option Nat} (h : POk r1.length r2.length p) : pEnd g e1 e2 (cdP r1.length r2.length p) = g (endO e1 p.1) (endO e2 p.2) := by
  obtain ⟨a, b⟩ := cd_div h
  unfold pEnd
  rw [M2.es, a, b, end_cd M1 h.1, end_cd M2 h.2]
theorem acc_wl0 {rs : Rws} {es : List Bool} (wide : ∀ r ∈ rs, r.length = L) {w : List Nat} (h : acc rs es w 0 = true) : Wl L w := by
  obtain ⟨t, hr, _⟩ := (acc_run w 0).mp h
  clear h
  have key : ∀ (w : List Nat) (s : Nat), (∃ t, run rs w s = some t) → Wl L w := by
    intro w
    induction w with
    | nil => exact fun s _ c hc => absurd hc List.not_mem_nil
    | cons c w ih =>
      rintro s ⟨t, ht⟩
      rw [run_cons] at ht
      cases e : nx rs s c with
      | none =>
        rw [e] at ht
        cases ht
      | some v =>
        rw [e] at ht
        intro x hx
        rcases List.mem_cons.mp hx with z | hx
        · rw [z]
          exact (Ver.nx_lt wide e).2.1
        · exact ih v ⟨t, ht⟩ x hx
  exact key w 0 ⟨t, hr⟩
/-- the words of the pairs -/
theorem p_acc (M1 : MOk L r1 e1) (M2 : MOk L r2 e2) (h : PI (gPair L r1 r2) L ns rows) (hn : rows.length = ns.length) (L1 : 1 ≤ L) (L3 : L ≤ 3) (hN : ns.length ≤ 200000) (gf : g false false = false) (w : List Nat) :
    acc (pRows rows) (ns.map (pEnd g e1 e2)) w 0 = g (acc r1 e1 w 0) (acc r2 e2 w 0) := by
  by_cases hw : Wl L w
  · have hw' : Wl L w.reverse := fun c hc => hw c (List.mem_reverse.mp hc)
    obtain ⟨j, e1', e2'⟩ := p_run h hn w.reverse hw'
    obtain ⟨a, b⟩ := walk_cd M1 M2 w.reverse hw'
    rw [List.reverse_reverse] at e1' a b
    rw [acc_end e1', List.getD_eq_getElem?_getD, List.getElem?_map, e2', a]
    show pEnd g e1 e2 (cdP r1.length r2.length (run r1 w 0, run r2 w 0)) = _
    rw [pEnd_cd M1 M2 b]
    show g (endO e1 (run r1 w 0)) (endO e2 (run r2 w 0)) = _
    rw [endO_acc, endO_acc]
  · have f : ∀ {rs : Rws} {es : List Bool}, (∀ r ∈ rs, r.length = L) → acc rs es w 0 = false := fun {rs es} wide => by
      cases e : acc rs es w 0 with
      | false => rfl
      | true => exact absurd (acc_wl0 wide e) hw
    rw [f (p_ok h hn hN L1 L3).row, f M1.row, f M2.row, gf]
end
/-! ### what a lambda promises; its call where it came in -/
section
open NdefX LamX
/-- the promise of a lambda -/
structure LOk (P : Program) (w : World) (K : PySem.W.Frag) (mg : Str → Option Value) (base : Heap) (k : Nat) (f : Addr) (F : NF) (b : Expr) (ps : List Str) (sp : Sp) : Prop where
  len : ∀ vs H Q E, sp vs H Q E → vs.length = ps.length
  run : ∀ (A : Around) (outer : List Env) (s : Shared) (H : Hp) (us : List Value) (vs : List V) (Q : VK), Room k A → Env0 P w K mg base A outer s H → H f = some (LmO f F b) → H F.c = some (CodeO F.c F.qual) → Vals vs us → sp vs H Q E0 →
    codeAny (model P w) A (.call (.ref f) ⟨us, []⟩) (CR CX0 outer P w H s Q E0) s
variable {P : Program} {w : World} {K : PySem.W.Frag} {mg : Str → Option Value} {base : Heap}
theorem lok_of {N ps : List Str} {F : NF} {f : Addr} {b : Expr} {k : Nat} {sp : Sp} (S : NScope N ps [] F.scope) (nc : F.cl = [])
    (hb : ∀ (pm ctv : Value) (us : List Value), us.length = ps.length → bindArgs (PySem.W.kla_fn F.name F.qual F.params b F.scope F.cl pm (.ref F.c) ctv) ⟨us, []⟩ = pure (ps.zip us)) (len : ∀ vs H Q E, sp vs H Q E → vs.length = ps.length)
    (hbody : ∀ (A : Around) (outer : List Env) (s : Shared) (H : Hp) (vs : List V) (Q : VK), Room k (A.deeper (envF F f s.heap.objs.size)) → sp vs H Q E0 →
      ∃ t, PE (ncx CX0 P w K mg base N F f A outer s H E0) b t ∧ t (startF N vs []) H Q) : LOk P w K mg base (k + 1) f F b ps sp := by
  refine ⟨len, fun A outer s H us vs Q hr e0 hf hc r hsp => ?_⟩
  have hl := len _ _ _ _ hsp
  have noL : s.heap.NoLimit := e0.mod.nolimit.keeps fun b o e => (e0.bs b o e).1
  obtain ⟨pm, ctv, ho⟩ := lmO_at e0.hok hf
  have cells : CellsAt F.cl [] [] s.heap H := by
    rw [nc]
    refine ⟨rfl, fun y c z => ?_, fun x y c z => ?_, fun i y z => ?_⟩
    · cases z
    · cases z
    · cases z
  refine PySem.W.kla_callFunE hr.depth ho rfl S.co S.gen rfl (codeO_at e0.hok hc) ?_
  rw [hb pm ctv us (by rw [← r.length]; exact hl)]
  refine wpAny_pure (wpAny_newFunctionEnv S.nocell (fun ⟨n, _⟩ hy => S.par n (List.of_mem_zip hy).1) (fun h1 hns hsb => ⟨noL.fresh _ hsb, ?_⟩) S.kind)
  show codeAny _ _ (.expr b (envF F f s.heap.objs.size)) _ _
  have stay : ∀ b o, s.heap.get? b = some o → h1.get? b = some o := fun b o e => hsb.extBut b o (Nat.ne_of_lt (Heap.lt_size e)) (Heap.get?_push_of_some _ e)
  obtain ⟨t, ht, q⟩ := hbody A outer s H vs Q (hr.deeper _) hsp
  have I : L2.Inv (ncx CX0 P w K mg base N F f A outer s H E0) [] (startF N vs []) H { s with heap := h1, toks := s.toks + (ps.zip us).length } := inv_startN S hr.hd e0 hl r cells hns stay
  refine PySem.W.kla_codeExpr (wpAny_mono (ht.run [] _ (startF N vs []) H _ I q) (fun u s' z => ?_) fun e s' z => z)
  obtain ⟨v, H', J, rv, q'⟩ := z
  exact ⟨v, H', J.os, J.bare, J.base, J.hok, rv, q'⟩
/-- g(e, ..), g a name that holds a lambda that came into the def -/
def tCallL (F : NF) (b : Expr) (i : Nat) (f : Addr) (sp : Sp) (t : TA) : TE := fun σ H Q => σ[i]? = some (some (.ref f)) ∧ H f = some (LmO f F b) ∧
  t σ H fun vs H1 => H1 f = some (LmO f F b) ∧ H1 F.c = some (CodeO F.c F.qual) ∧ sp vs H1 Q E0
theorem pe_callL {X : Cx} {k j i : Nat} {f : Addr} {F : NF} {b : Expr} {sp : Sp} {x : Str} {p pos : Pos} {e : Expr} {es : List Expr} {t : TA} {ps : List Str} (Fn : LOk X.prog X.w X.K X.mg X.base k f F b ps sp) (hr : Room j X.A) (hk : k ≤ j) (hN : X.N[i]? = some x) (hv : Vis X.env.scope x) (ha : PA X (e :: es) t)
    (hd : (x == ("__debug__" : Str)) = false := by decide) (hcd : (x == ("__classdict__" : Str)) = false := by decide)
    (he : starEach (e :: es) X.env = (false, eval e X.env) :: starEach es X.env := by rfl) (hpl : (backTo pos (starEach es X.env)).any (·.1) = false := by rfl) :
    PE X (.Call (.Name x p) (e :: es) [] pos) (tCallL F b i f sp t) := by
  refine ⟨fun pins s σ H Q I h => ?_⟩
  obtain ⟨hs, hf, ht⟩ := h
  refine wpAny_Call_Name_kw (thn ((pe_var (pos := p) hN hv hd hcd).run pins s σ H (fun v H1 => v = .ref f ∧ H1 = H) I ⟨.ref f, hs, rfl, rfl⟩) fun u s1 ⟨v, H1, I1, r1, q1⟩ => ?_)
  obtain ⟨ev, eH⟩ := q1
  subst ev
  rw [eH] at I1
  obtain rfl : u = Value.ref f := r1
  have at_ : ∀ {H' : Hp} {s' : Shared}, L2.Inv X pins σ H' s' → H' f = some (LmO f F b) → PySem.W.FnAt f s'.heap := fun {H' s'} J q => by
    obtain ⟨pm, ctv, ho⟩ := lmO_at J.hok q
    exact ⟨_, _, _, _, ho⟩
  refine PySem.W.callWith_F (first := []) (at_ I1 hf) (thn (ha.run pos pins s1 σ H _ I1 ht) fun us s2 ⟨vs, H2, I2, r, h1, h2, q⟩ => ⟨at_ I2 h1, ?_⟩) he hpl
  show wpAny _ _ (call (.ref f) us) _ _ _
  refine wpAny_call (codeAny_mono (Fn.run X.A X.stack s2 H2 us vs Q (hr.mono hk) I2.env0 h1 h2 r q) fun r s' hq => ?_)
  cases r with
  | error e => exact pass0 pins σ H2 s2 e s' I2 hq
  | ok fl =>
    cases fl with
    | ret u => exact I2.after hq
    | next => exact False.elim hq
    | brk => exact False.elim hq
    | cont => exact False.elim hq
end
/-! ### languages, and the one smallest machine of each -/
theorem run_wl {rs : Rws} {L : Nat} (wide : ∀ r ∈ rs, r.length = L) : ∀ (w : List Nat) (s : Nat) {t : Nat}, run rs w s = some t → Wl L w
  | [], _, _, _ => fun c hc => absurd hc List.not_mem_nil
  | c :: w, s, t, h => by
    rw [run_cons] at h
    cases e : nx rs s c with
    | none =>
      rw [e] at h
      cases h
    | some v =>
      rw [e] at h
      intro x hx
      rcases List.mem_cons.mp hx with z | hx
      · rw [z]
        exact (Ver.nx_lt wide e).2.1
      · exact run_wl wide w v h x hx
theorem acc_wide {rs : Rws} {es : List Bool} {L : Nat} (wide : ∀ r ∈ rs, r.length = L) {w : List Nat} {s : Nat} (h : acc rs es w s = true) : Wl L w := by
  obtain ⟨t, hr, _⟩ := (acc_run w s).mp h
  exact run_wl wide w s hr
theorem acc_app {rs : Rws} {es : List Bool} {u v : List Nat} {s t : Nat} (h : run rs u s = some t) : acc rs es (u ++ v) s = acc rs es v t := by
  rw [Bool.eq_iff_iff, acc_run, acc_run, run_append, h]
  exact Iff.rfl
/-- words by what may follow them: at most N lots -/
def WCls (L : Nat) (p : List Nat → Bool) (N : Nat) : Prop := ∃ c : List Nat → Nat, (∀ w, Wl L w → c w < N) ∧ ∀ w w', Wl L w → Wl L w' → c w = c w' → ∀ v, p (w ++ v) = p (w' ++ v)
theorem wcls_cls {L N : Nat} {rs : Rws} {es : List Bool} {p : List Nat → Bool} (wide : ∀ r ∈ rs, r.length = L) (ha : ∀ w, acc rs es w 0 = p w) (h : WCls L p N) : Cls rs es N := by
  obtain ⟨c, c1, c2⟩ := h
  have ex : ∃ g : Nat → List Nat, ∀ s, Reach rs s → run rs (g s) 0 = some s := by
    classical
    refine ⟨fun s => if h : Reach rs s then (reach_run.mp h).choose else [], fun s hs => ?_⟩
    show run rs (if h : Reach rs s then (reach_run.mp h).choose else []) 0 = some s
    rw [dif_pos hs]
    exact (reach_run.mp hs).choose_spec
  obtain ⟨g, hg⟩ := ex
  refine ⟨fun s => c (g s), fun s hs => c1 _ (run_wl wide _ _ (hg s hs)), fun s t hs ht e v => ?_⟩
  have := c2 _ _ (run_wl wide _ _ (hg s hs)) (run_wl wide _ _ (hg t ht)) e v
  rw [← ha, ← ha, acc_app (hg s hs), acc_app (hg t ht)] at this
  exact this
theorem canon_cls {rs : Rws} {es : List Bool} {L N : Nat} {ps : List Nat} {out : Rws} {oe : List Bool} (C : Canon rs es L ps out oe) (h : Cls rs es N) : ps.length ≤ N := by
  obtain ⟨c, c1, c2⟩ := h
  have rep : ∀ (n i p : Nat), i < n → ps[i]? = some p → ∃ s, Reach rs s ∧ Eqv rs es rs es s p := by
    intro n
    induction n with
    | zero => exact fun i p hi => absurd hi (Nat.not_lt_zero _)
    | succ n ih =>
      intro i p hi hp
      by_cases i0 : i = 0
      · subst i0
        rw [C.zero] at hp
        cases hp
        exact ⟨0, .z, Eqv.refl 0⟩
      · have il := (List.getElem?_eq_some_iff.mp hp).1
        obtain ⟨k, a, kl, hn, _⟩ := C.ord i (by omega) il
        obtain ⟨p', hp'⟩ : ∃ p', ps[k]? = some p' := ⟨_, List.getElem?_eq_getElem (by omega)⟩
        obtain ⟨s, hs, he⟩ := ih k p' (by omega) hp'
        obtain ⟨t, q, hw, hq, ht⟩ := C.some_ k p' a i hp' hn
        rw [hp] at hq
        cases hq
        obtain ⟨t', hw', ht'⟩ := he.symm.way hw
        exact ⟨t', reach_nx hs hw'.1, ht'.symm.trans ht⟩
  have ex : ∃ g : Nat → Nat, ∀ i p, ps[i]? = some p → Reach rs (g i) ∧ Eqv rs es rs es (g i) p := by
    classical
    refine ⟨fun i => if h : ∃ s, ∀ p, ps[i]? = some p → Reach rs s ∧ Eqv rs es rs es s p then h.choose else 0, fun i p hp => ?_⟩
    have hx : ∃ s, ∀ p, ps[i]? = some p → Reach rs s ∧ Eqv rs es rs es s p := by
      obtain ⟨s, h1, h2⟩ := rep (i + 1) i p (Nat.lt_succ_self i) hp
      exact ⟨s, fun q hq => by
        rw [hp] at hq
        cases hq
        exact ⟨h1, h2⟩⟩
    show Reach rs (if h : ∃ s, ∀ p, ps[i]? = some p → Reach rs s ∧ Eqv rs es rs es s p then h.choose else 0) ∧ Eqv rs es rs es (if h : ∃ s, ∀ p, ps[i]? = some p → Reach rs s ∧ Eqv rs es rs es s p then h.choose else 0) p
    rw [dif_pos hx]
    exact hx.choose_spec p hp
  obtain ⟨g, hg⟩ := ex
  have nd : ((List.range ps.length).map fun i => c (g i)).Nodup := by
    rw [List.nodup_iff_pairwise_ne, List.pairwise_map]
    refine List.Pairwise.imp_of_mem ?_ (List.nodup_iff_pairwise_ne.mp List.nodup_range)
    intro a b ha hb ne e
    have la := List.mem_range.mp ha
    have lb := List.mem_range.mp hb
    obtain ⟨ra, ea⟩ := hg a _ (List.getElem?_eq_getElem la)
    obtain ⟨rb, eb⟩ := hg b _ (List.getElem?_eq_getElem lb)
    exact ne (C.one a b _ _ (List.getElem?_eq_getElem la) (List.getElem?_eq_getElem lb) (ea.symm.trans ((c2 _ _ ra rb e).trans eb)))
  have := nodup_len (n := N) nd fun x hx => by
    obtain ⟨i, hi, rfl⟩ := List.mem_map.mp hx
    exact c1 _ (hg i _ (List.getElem?_eq_getElem (List.mem_range.mp hi))).1
  rwa [List.length_map, List.length_range] at this
/-- the smallest machine of a language -/
def Best (L : Nat) (p : List Nat → Bool) (out : Rws) (oe : List Bool) : Prop := ∃ rs es, Smallest rs es L out oe ∧ ∀ w, acc rs es w 0 = p w
section
variable {L : Nat} {p q : List Nat → Bool} {out out' : Rws} {oe oe' : List Bool}
theorem Best.eq (h : Best L p out oe) (g : Best L p out' oe') : out = out' ∧ oe = oe' := by
  obtain ⟨rs, es, S, e⟩ := h
  obtain ⟨rs', es', S', e'⟩ := g
  exact smallest_eq S S' fun w => (e w).trans (e' w).symm
theorem Best.acc (h : Best L p out oe) (w : List Nat) : acc out oe w 0 = p w := by
  obtain ⟨rs, es, S, e⟩ := h
  rw [smallest_eqv S w, e]
theorem Best.congr (h : Best L p out oe) (e : ∀ w, p w = q w) : Best L q out oe := by
  obtain ⟨rs, es, S, e'⟩ := h
  exact ⟨rs, es, S, fun w => (e' w).trans (e w)⟩
theorem best_self {rs : Rws} {es : List Bool} (S : Smallest rs es L out oe) : Best L (fun w => Ver.acc rs es w 0) out oe := ⟨rs, es, S, fun _ => rfl⟩
theorem small_mok {rs : Rws} {es : List Bool} (S : Smallest rs es L out oe) (n : out.length ≤ 400) (L1 : 1 ≤ L) (L3 : L ≤ 3) : MOk L out oe := by
  have el := smallest_len S
  rcases S with ⟨ps, C⟩ | ⟨_, rfl, rfl⟩
  · have lo := C.lo
    have l0 := (List.getElem?_eq_some_iff.mp C.zero).1
    refine ⟨by omega, n, C.wide, fun row hr t ht => ?_, el, L1, L3⟩
    obtain ⟨i, hi⟩ := List.mem_iff_getElem?.mp hr
    obtain ⟨c, hc⟩ := List.mem_iff_getElem?.mp ht
    have il := (List.getElem?_eq_some_iff.mp hi).1
    have e : nx out i c = some t := by
      unfold nx
      rw [List.getD_eq_getElem?_getD, List.getD_eq_getElem?_getD, hi]
      show (row[c]?).getD none = _
      rw [hc]
      rfl
    obtain ⟨_, q, _, hq, _⟩ := C.some_ i _ c t (List.getElem?_eq_getElem (show i < ps.length by omega)) e
    have := (List.getElem?_eq_some_iff.mp hq).1
    omega
  · refine ⟨Nat.le_refl _, n, fun row hr => ?_, fun row hr t ht => ?_, rfl, L1, L3⟩
    · rw [List.mem_singleton.mp hr, List.length_replicate]
    · rw [List.mem_singleton.mp hr] at ht
      cases (List.mem_replicate.mp ht).2
theorem small_len {rs : Rws} {es : List Bool} {N : Nat} (S : Smallest rs es L out oe) (C : Cls rs es N) (hN : 1 ≤ N) : out.length ≤ N := by
  rcases S with ⟨ps, K⟩ | ⟨_, rfl, _⟩
  · rw [K.lo]
    exact canon_cls K C
  · exact hN
/-- lots of words of two languages together -/
theorem WCls.two {N M : Nat} {r : List Nat → Bool} {g : Bool → Bool → Bool} (h : WCls L p N) (k : WCls L q M) (e : ∀ w, r w = g (p w) (q w)) : WCls L r (N * M) := by
  obtain ⟨c, c1, c2⟩ := h
  obtain ⟨d, d1, d2⟩ := k
  refine ⟨fun w => c w * M + d w, fun w hw => ?_, fun w w' hw hw' z v => ?_⟩
  · have a := c1 w hw
    have b := d1 w hw
    have : (c w + 1) * M ≤ N * M := Nat.mul_le_mul_right _ a
    rw [Nat.add_mul, Nat.one_mul] at this
    show c w * M + d w < N * M
    omega
  · have b := d1 w hw
    have b' := d1 w' hw'
    have z : c w * M + d w = c w' * M + d w' := z
    have m0 : 0 < M := by omega
    have q1 : (c w * M + d w) / M = c w := by rw [Nat.add_comm, Nat.add_mul_div_right _ _ m0, Nat.div_eq_of_lt b, Nat.zero_add]
    have q2 : (c w' * M + d w') / M = c w' := by rw [Nat.add_comm, Nat.add_mul_div_right _ _ m0, Nat.div_eq_of_lt b', Nat.zero_add]
    have ec : c w = c w' := by rw [← q1, ← q2, z]
    have ed : d w = d w' := by
      rw [ec] at z
      omega
    rw [e, e, c2 w w' hw hw' ec v, d2 w w' hw hw' ed v]
theorem WCls.mono {N M : Nat} (h : WCls L p N) (l : N ≤ M) : WCls L p M := by
  obtain ⟨c, c1, c2⟩ := h
  exact ⟨c, fun w hw => Nat.lt_of_lt_of_le (c1 w hw) l, c2⟩
/-- a machine's own lots: its states, and none -/
theorem MOk.wcls {rs : Rows} {es : List Bool} (M : MOk L rs es) : WCls L (fun w => Ver.acc rs es w 0) (rs.length + 1) := by
  refine ⟨fun w => (run rs w 0).getD rs.length, fun w _ => ?_, fun w w' _ _ e v => ?_⟩
  · exact optD_le fun u hu => M.run_lt w hu
  · have e := optD_inj (fun u hu => M.run_lt w hu) (fun u hu => M.run_lt w' hu) e
    show Ver.acc rs es (w ++ v) 0 = Ver.acc rs es (w' ++ v) 0
    rw [Bool.eq_iff_iff, acc_run, acc_run, run_append, run_append, e]
end
/-! ### paired -/


section
open NdefX LamX
variable {P : Program} {w : World} {K : PySem.W.Frag} {mg : Str → Option Value} {base : Heap}
theorem scPaired : FnScope ["one", "other", "ended", "first", "first_ends", "second", "second_ends", "wide", "numbers", "nodes", "rows", "left", "right", "row", "item", "beside", "node", "ends"] ["one", "other", "ended"] (defScope sPaired) := ⟨rfl, rfl, rfl, by decide +kernel, rfl, by decide +kernel, by decide +kernel⟩
/-- what comes of two truths -/
def spB2 (g : Bool → Bool → Bool) : Sp := fun vs H Q _ => ∃ a b : Bool, vs = [.bl a, .bl b] ∧ Q (.bl (g a b)) H
def spPaired (P : Program) (w : World) (K : PySem.W.Frag) (mg : Str → Option Value) (base : Heap) : Sp := fun vs H Q _ => ∃ (L : Nat) (r1 r2 : Rows) (e1 e2 : List Bool) (x y : V) (B : Addr → Prop) (fl : Addr) (FL : NF) (b : Expr) (g : Bool → Bool → Bool),
  vs = [x, y, .ref fl] ∧ Dt B K H x (machDt L r1 e1) ∧ Dt B K H y (machDt L r2 e2) ∧ MOk L r1 e1 ∧ MOk L r2 e2 ∧ TB B H ∧ H fl = some (LmO fl FL b) ∧ H FL.c = some (CodeO FL.c FL.qual) ∧ LOk P w K mg base 1 fl FL b ["left", "right"] (spB2 g) ∧ g false false = false ∧
  WCls L (fun w => g (acc r1 e1 w 0) (acc r2 e2 w 0)) 400 ∧
  ∀ (H' : Hp) (v : V) (out : Rws) (oe : List Bool), Same H H' → Dt B K H' v (machDt L out oe) → Best L (fun w => g (acc r1 e1 w 0) (acc r2 e2 w 0)) out oe → MOk L out oe → Q v H'
theorem ok_paired {f fCM fGR : Addr} {fd fdCM fdGR : FuncData} (F : Fun K "paired" "paired" sPaired f fd)
    (CM : FnOk P w K mg base CX0 1 fCM fdCM ["machine"] (spCompl K)) (FCM : Fun K "completed" "completed" sCompl fCM fdCM) (bCM : Binds K fdCM ["machine"] []) (gCM : mg "completed" = some (.ref fCM))
    (GR : FnOk P w K mg base CX0 4 fGR fdGR ["letters", "rows", "ends"] (spGraph K)) (FGR : Fun K "smallest_graph" "smallest_graph" sSmallG fGR fdGR) (bGR : Binds K fdGR ["letters", "rows", "ends"] []) (gGR : mg "smallest_graph" = some (.ref fGR)) (T : Mg mg) (mDM : mg "divmod" = none) : FnOk P w K mg base CX0 5 f fd ["one", "other", "ended"] (spPaired P w K mg base) := by
  refine F.ok scPaired (fun vs H Q E h => ?_) (fun cdv A outer s H vs Q E hr h => ?_)
  · obtain ⟨L, r1, r2, e1, e2, x, y, B, fl, FL, b, g, rfl, _⟩ := h
    rfl
  · obtain ⟨L, r1, r2, e1, e2, x, y, B, fl, FL, b, g, rfl, hx, hy, M1, M2, tb, hfl, hcl, LO, gf, WC, k⟩ := h
    have hu1 := hu_of hr
    refine ⟨_, (pss_cons (ps_asg (pe_call CM (hr.mono (by decide)) (by rfl) gCM FCM.kp bCM .nil pass0 (pa_cons (pv 0) pa_nil)) (pg_tup rfl (pgs_cons (pg_name (i := 3) scPaired.nd rfl (.inl rfl)) (pgs_cons (pg_name (i := 4) scPaired.nd rfl (.inr rfl)) pgs_nil))))
      (pss_cons (ps_asg (pe_call CM (hr.mono (by decide)) (by rfl) gCM FCM.kp bCM .nil pass0 (pa_cons (pv 1) pa_nil)) (pg_tup rfl (pgs_cons (pg_name (i := 5) scPaired.nd rfl (.inl rfl)) (pgs_cons (pg_name (i := 6) scPaired.nd rfl (.inr rfl)) pgs_nil))))
      (pss_cons (ps_set (i := 7) scPaired.nd rfl (.inr rfl) (pe_callB (r := rLen K) call_len_seq (by rfl) T.len PySem.boot_len (pa_cons (pv 5) pa_nil)))
      (pss_cons (ps_set (i := 8) scPaired.nd rfl (.inr rfl) (pe_disp (pps_cons pe_int pe_int pps_nil) (by rfl) (by rfl) (fun z => by cases z) (by decide)))
      (pss_cons (ps_set (i := 9) scPaired.nd rfl (.inl rfl) (pe_lst (pa_cons pe_int pa_nil)))
      (pss_cons (ps_set (i := 10) scPaired.nd rfl (.inl rfl) (pe_lst pa_nil))
      (pss_cons (ps_while PassesOwn.never (pt_cmpR op_lt (pe_callB (r := rLen K) call_len_seq (by rfl) T.len PySem.boot_len (pa_cons (pv 10) pa_nil)) (pe_callB (r := rLen K) call_len_seq (by rfl) T.len PySem.boot_len (pa_cons (pv 9) pa_nil)) (nomark _)) (pss_cons (ps_asg (pe_callB call_divmod (by rfl) mDM (by decide +kernel) (pa_cons (pe_ix (r := rIxL K) ix_list (pv 9) (pe_callB (r := rLen K) call_len_seq (by rfl) T.len PySem.boot_len (pa_cons (pv 10) pa_nil)) (fun _ _ => rfl)) (pa_cons (pv 7) pa_nil))) (pg_tup rfl (pgs_cons (pg_name (i := 11) scPaired.nd rfl (.inl rfl)) (pgs_cons (pg_name (i := 12) scPaired.nd rfl (.inl rfl)) pgs_nil))))
      (pss_cons (ps_setLc (i := 13) (own := [("item", 14), ("beside", 15)]) (g := gTup K 2 (gCons (gName 14) (gCons (gName 15) gNil))) (tt := tYes) rfl scPaired.nd rfl rfl (sw_true rfl rfl rfl (by decide +kernel)) (pi_zip (by rfl) T.zip (pa_cons (pe_ix (r := rIxL K) ix_list (pv 3) (pv 11) (fun _ _ => rfl)) (pa_cons (pe_ix (r := rIxL K) ix_list (pv 5) (pv 12) (fun _ _ => rfl)) pa_nil))) (blkOk_by (N := ["one", "other", "ended", "first", "first_ends", "second", "second_ends", "wide", "numbers", "nodes", "rows", "left", "right", "row", "item", "beside", "node", "ends"]) (sc := defScope sPaired) (by decide +kernel)) (fun _ _ _ _ _ => pg_tup rfl (pgs_cons (pg_name (i := 14) scPaired.nd rfl (Or.inl rfl)) (pgs_cons (pg_name (i := 15) scPaired.nd rfl (Or.inl rfl)) pgs_nil))) (fun _ _ _ _ _ => pts_nil) (fun _ _ _ _ _ => pe_op op_add (pe_op op_mul (pv 14) (pv 7)) (pv 15)))
      (pss_cons (ps_for PassesOwn.never rfl (pi_list (pv 13)) (pg_name (i := 16) scPaired.nd rfl (.inl rfl)) (pss_one (ps_if (pt_cmp (pc_dnotin hu1 (pv 16) (pv 8))) (pss_cons (ps_asg (pe_callB (r := rLen K) call_len_seq (by rfl) T.len PySem.boot_len (pa_cons (pv 9) pa_nil)) (pg_sub (pv 8) (pv 16) (set_dict hu1)))
      (pss_one (ps_expr (pe_bm PySem.F.plainAttrs_list PySem.F.slot_list_append PySem.F.type_list_append mt_append (pv 9) (pa_cons (pv 16) pa_nil))))) pss_nil)))
      (pss_one (ps_expr (pe_bm PySem.F.plainAttrs_list PySem.F.slot_list_append PySem.F.type_list_append mt_append (pv 10) (pa_cons (pe_lc (own := [("node", 16)]) (g := gName 16) (tt := tYes) rfl scPaired.nd (pi_list (pv 13)) (blkOk_by (N := ["one", "other", "ended", "first", "first_ends", "second", "second_ends", "wide", "numbers", "nodes", "rows", "left", "right", "row", "item", "beside", "node", "ends"]) (sc := defScope sPaired) (by decide +kernel)) (fun _ _ _ _ _ => pg_name (i := 16) scPaired.nd rfl (Or.inl rfl)) (fun _ _ _ _ _ => pts_nil) (fun _ _ _ _ _ => pe_dget hu1 (pv 8) (pv 16) (fun _ _ => rfl))) pa_nil))))))))
      (pss_cons (ps_setLc (i := 17) (own := [("node", 16)]) (g := gName 16) (tt := tYes) rfl scPaired.nd rfl rfl (sw_true rfl rfl rfl (by decide +kernel)) (pi_list (pv 9)) (blkOk_by (N := ["one", "other", "ended", "first", "first_ends", "second", "second_ends", "wide", "numbers", "nodes", "rows", "left", "right", "row", "item", "beside", "node", "ends"]) (sc := defScope sPaired) (by decide +kernel)) (fun _ _ _ _ _ => pg_name (i := 16) scPaired.nd rfl (Or.inl rfl)) (fun _ _ _ _ _ => pts_nil) (fun _ _ _ _ _ => pe_callL (i := 2) LO (hr.mono (by decide)) (Nat.le_refl _) (by rfl) (by first | exact .inl rfl | exact .inr (.inl rfl) | exact .inr (.inr rfl)) (pa_cons (pe_ix (r := rIxL K) ix_list (pv 4) (pe_op op_fdiv (pv 16) (pv 7)) (fun _ _ => rfl)) (pa_cons (pe_ix (r := rIxL K) ix_list (pv 6) (pe_op op_mod (pv 16) (pv 7)) (fun _ _ => rfl)) pa_nil))))
      (pss_one (ps_ret (pe_call GR (hr.mono (by decide)) (by rfl) gGR FGR.kp bGR .nil pass0 (pa_cons (pe_ix (r := rIxT K) ix_tup (pv 0) pe_int (fun _ _ => rfl)) (pa_cons (pv 10) (pa_cons (pv 17) pa_nil)))))))))))))), ?_⟩
    have L3 := M1.L3
    have L1 := M1.L1
    have l4 := M1.l400
    have l4' := M2.l400
    refine ⟨_, rfl, L, r1, e1, x, B, rfl, hx, M1, fun H1 ra p1 q1 fas s1 hra hp1 m1 hq1 => ?_⟩
    refine ⟨ra, _, rfl, SqT.of hra, rfl, _, _, rfl, _, _, rfl, rfl, ?_⟩
    refine ⟨_, rfl, L, r2, e2, y, B, rfl, same_dt s1 hy, M2, fun H2 rb p2 q2 sas s2 hrb hp2 m2 hq2 => ?_⟩
    refine ⟨rb, _, rfl, SqT.of hrb, rfl, _, _, rfl, _, _, rfl, rfl, ?_⟩
    have s12 := s1.trans s2
    have hp12 := s2 _ _ hp1
    have hq12 := s2 _ _ hq1
    have m12 := m1.keep (W := fun _ => False) (Keep.same s2) (fun _ _ z => z)
    have c1 := cmpl_len M1
    have c2 := cmpl_len M2
    have fl1 := m12.ln
    have sl := m2.ln
    have ew : ((sas.map V.ref).length : Int) = ((r2.length + 1 : Nat) : Int) := by rw [List.length_map, sl, c2]
    refine ⟨_, rfl, p2, _, rfl, .inl (SqL.of hp2), ?_⟩
    rw [ew]
    clear hra hrb hp1 hq1 m1 s1 s2
    have wp : 0 < r2.length + 1 := by omega
    intro dn hdn
    refine ⟨upd_same, [(.inl 0, .int 0)], rfl, by show 1 ≤ 15; decide, ?_⟩
    rw [upd_upd]
    have t1 := same_new (o := .dK (mergeK [] [(.inl 0, V.int 0)])) hdn
    have hd1 : (upd H2 dn (.dK (mergeK [] [(.inl 0, V.int 0)]))) dn = some (.dK (numKv 0 [0])) := upd_same
    generalize upd H2 dn (.dK (mergeK [] [(.inl 0, V.int 0)])) = G1 at *
    refine ⟨by show 1 ≤ sizeLine; decide, fun nl hnl => ?_⟩
    have t2 := same_new (o := .lst [.int 0]) hnl
    have hn2 : (upd G1 nl (.lst [.int 0])) nl = some (.lst ([0].map natV)) := upd_same
    have hd2 := t2 _ _ hd1
    generalize upd G1 nl (.lst [.int 0]) = G2 at *
    refine ⟨by show 0 ≤ sizeLine; decide, fun rl hrl => ?_⟩
    have t3 := same_new (o := .lst []) hrl
    have hr3 : (upd G2 rl (.lst [])) rl = some (.lst (([] : List Addr).map V.ref)) := upd_same
    have hd3 := t3 _ _ hd2
    have hn3 := t3 _ _ hn2
    have nkd : nl ≠ dn := fun z => by rw [z, hd1] at hnl; cases hnl
    have nld : rl ≠ dn := fun z => by rw [z, hd2] at hrl; cases hrl
    have nlk : rl ≠ nl := fun z => by rw [z, hn2] at hrl; cases hrl
    have fr : ∀ {b : Addr} {u : HO}, H2 b = some u → b ≠ dn ∧ b ≠ nl ∧ b ≠ rl := fun {b u} e => ⟨fun z => (by rw [z] at e; rw [e] at hdn; cases hdn), fun z => (by rw [z] at e; rw [t1 _ _ e] at hnl; cases hnl), fun z => (by rw [z] at e; rw [t2 _ _ (t1 _ _ e)] at hrl; cases hrl)⟩
    have t13 := (t1.trans t2).trans t3
    generalize upd G2 rl (.lst []) = G3 at *
    clear hd1 hd2 hn2
    have blt : ∀ {ns : List Nat} {rows : List (List Nat)}, PI (gPair L r1 r2) L ns rows → (∀ v ∈ ns, v < (r1.length + 1) * (r2.length + 1)) ∧ ns.length ≤ 200000 := fun {ns rows} pi => by
      have h1 : ∀ v ∈ ns, v < (r1.length + 1) * (r2.length + 1) := fun v hv => by
        obtain ⟨u, hu, rfl⟩ := pi.rch v hv
        obtain ⟨a, b⟩ := walk_cd M1 M2 u hu
        rw [a]
        exact cd_lt b
      refine ⟨h1, Nat.le_trans (nodup_len pi.nd h1) ?_⟩
      have : (r1.length + 1) * (r2.length + 1) ≤ 401 * 401 := Nat.mul_le_mul (by omega) (by omega)
      omega
    refine while_by (fun σ H' => ∃ (ns : List Nat) (rows : List (List Nat)) (ras : List Addr) (y11 y12 y13 y16 : Option V), σ = [some x, some y, some (.ref fl), some (.ref p1), some (.ref q1), some (.ref p2), some (.ref q2), some (.int ((r2.length + 1 : Nat) : Int)), some (.ref dn), some (.ref nl), some (.ref rl), y11, y12, y13, none, none, y16, none] ∧
        Same H2 H' ∧ H' dn = some (.dK (numKv 0 ns)) ∧ H' nl = some (.lst (ns.map natV)) ∧ H' rl = some (.lst (ras.map V.ref)) ∧ MemAt H' ras rows ∧ (∀ a ∈ ras, a ≠ dn ∧ a ≠ nl ∧ a ≠ rl) ∧ PI (gPair L r1 r2) L ns rows)
      (fun (_ : List (Option V)) (H' : Hp) => match H' rl with
        | some (.lst xs) => 200001 - xs.length
        | _ => 0) ⟨[0], [], [], none, none, none, none, rfl, t13, hd3, hn3, hr3, ⟨rfl, fun b a e => by cases e⟩, fun a ha => absurd ha List.not_mem_nil, pi_start⟩ ?_ ?_
    · rintro σ H3 ⟨ns, rows, ras, y11, y12, y13, y16, rfl, sm, hd, hn, hr, mr, fa, pi⟩
      have lra := mr.ln
      obtain ⟨vlt, nsN⟩ := blt pi
      refine ⟨_, rfl, rl, _, rfl, .inl (SqL.of hr), _, rfl, nl, _, rfl, .inl (SqL.of hn), _, _, rfl, rfl, _, rfl, ite2 (fun hlt => ?_) fun hlt => ?_⟩
      · have hlt := of_decide_eq_true hlt
        rw [List.length_map, List.length_map] at hlt
        have hl2 : rows.length < ns.length := by omega
        obtain ⟨v, hv⟩ : ∃ v, ns[rows.length]? = some v := ⟨_, List.getElem?_eq_getElem hl2⟩
        have lv := vlt v (List.mem_of_getElem? hv)
        have hqv : v / (r2.length + 1) < r1.length + 1 := Nat.div_lt_of_lt_mul (by rw [Nat.mul_comm]; exact lv)
        have hmv : v % (r2.length + 1) < r2.length + 1 := Nat.mod_lt _ wp
        refine ⟨_, rfl, _, rfl, rl, _, rfl, .inl (SqL.of hr), nl, _, _, _, rfl, rfl, SqL.of hn, atI_nat (natV_get (by rw [List.length_map, lra]; exact hv)), _, rfl, _, _, rfl, ?_⟩
        refine ⟨⟨by omega, by omega⟩, fun pt npt => ?_⟩
        have tp := same_new (o := .tup [.int ((v : Int) / ((r2.length + 1 : Nat) : Int)), .int ((v : Int) % ((r2.length + 1 : Nat) : Int))]) npt
        refine ⟨pt, _, rfl, SqT.of upd_same, rfl, _, _, rfl, _, _, rfl, rfl, ?_⟩
        have d1 : (v : Int) / ((r2.length + 1 : Nat) : Int) = ((v / (r2.length + 1) : Nat) : Int) := (Int.natCast_ediv _ _).symm
        have d2 : (v : Int) % ((r2.length + 1 : Nat) : Int) = ((v % (r2.length + 1) : Nat) : Int) := (Int.natCast_emod _ _).symm
        have sm4 := sm.trans tp
        have hd4 := tp _ _ hd
        have hn4 := tp _ _ hn
        have hr4 := tp _ _ hr
        have mr4 := mr.keep (W := fun _ => False) (Keep.same tp) (fun _ _ z => z)
        generalize upd H3 pt (.tup [.int ((v : Int) / ((r2.length + 1 : Nat) : Int)), .int ((v : Int) % ((r2.length + 1 : Nat) : Int))]) = G4 at *
        have hr0 := hr
        clear hd hn hr mr sm tp npt
        obtain ⟨f1, hf1⟩ : ∃ f1, fas[v / (r2.length + 1)]? = some f1 := ⟨_, List.getElem?_eq_getElem (by omega)⟩
        obtain ⟨s1, hs1⟩ : ∃ s1, sas[v % (r2.length + 1)]? = some s1 := ⟨_, List.getElem?_eq_getElem (by omega)⟩
        have g1 := sm4 _ _ (m12.at_ _ _ hf1)
        have g2 := sm4 _ _ (m2.at_ _ _ hs1)
        have a1 := cmpl_row M1 hqv
        have a2 := cmpl_row M2 hmv
        refine ⟨_, rfl, _, rfl, p1, _, _, V.ref f1, rfl, rfl, SqL.of (sm4 _ _ hp12), by rw [d1]; exact atI_nat (by rw [List.getElem?_map, hf1]; rfl), ?_⟩
        refine ⟨_, rfl, _, rfl, p2, _, _, V.ref s1, rfl, rfl, SqL.of (sm4 _ _ hp2), by rw [d2]; exact atI_nat (by rw [List.getElem?_map, hs1]; rfl), ?_⟩
        refine ⟨f1, s1, _, _, rfl, SqL.of g1, SqL.of g2, fun D hD => ?_⟩
        have eg : gPair L r1 r2 v = (List.range L).map fun c => ((cmpl L r1).getD (v / (r2.length + 1)) []).getD c 0 * (r2.length + 1) + ((cmpl L r2).getD (v % (r2.length + 1)) []).getD c 0 := rfl
        have gl := gPair_lt M1 M2 lv
        generalize (cmpl L r1).getD (v / (r2.length + 1)) [] = A1 at *
        generalize (cmpl L r2).getD (v % (r2.length + 1)) [] = A2 at *
        refine lc_it (walk_zip (a := f1) (b := s1) (xs := A1.map natV) (ys := A2.map natV) (n := L) (by rw [List.length_map, List.length_map, a1.1, a2.1, Nat.min_self])) (fun j H' => Same G4 H' ∧ H' D = some (.lst (((List.range j).map fun c => A1.getD c 0 * (r2.length + 1) + A2.getD c 0).map natV))) ⟨same_new hD, upd_same⟩ (fun j H' _ p => ⟨SqL.of (p.1 _ _ g1), SqL.of (p.1 _ _ g2)⟩) ?_ ?_
        · rintro j x H5 H6 hj ⟨sm5, hl1⟩ ⟨T2, va, vb, rfl, nT, rfl, ea, eb⟩
          obtain ⟨x1, hx1, rfl⟩ := natV_of ea
          obtain ⟨x2, hx2, rfl⟩ := natV_of eb
          have b1 := a1.2 x1 (List.mem_of_getElem? hx1)
          have sT := same_new (o := .tup [V.int (x1 : Int), V.int (x2 : Int)]) nT
          refine ⟨T2, _, rfl, SqT.of upd_same, rfl, _, _, rfl, _, _, rfl, rfl, ?_⟩
          refine ⟨rfl, _, rfl, _, rfl, _, _, rfl, rfl, .inl ⟨by omega, by omega⟩, _, rfl, _, _, rfl, rfl, ?_⟩
          refine ⟨_, sT _ _ hl1, small9 (by rw [List.length_map, List.length_map, List.length_range]; omega), fun b o e => ?_, ?_⟩
          · rw [upd_ne (ne_of_none e hD)]
            exact sT _ _ (sm5 _ _ e)
          · rw [upd_same, List.range_succ, List.map_append, List.map_append]
            have z1 : A1.getD j 0 = x1 := by rw [List.getD_eq_getElem?_getD, hx1]; rfl
            have z2 : A2.getD j 0 = x2 := by rw [List.getD_eq_getElem?_getD, hx2]; rfl
            show some (HO.lst (_ ++ [V.int ((x1 : Int) * ((r2.length + 1 : Nat) : Int) + (x2 : Int))])) = some (HO.lst (_ ++ [natV (A1.getD j 0 * (r2.length + 1) + A2.getD j 0)]))
            rw [z1, z2]
            show _ = some (HO.lst (_ ++ [V.int ((x1 * (r2.length + 1) + x2 : Nat) : Int)]))
            rw [show (x1 : Int) * ((r2.length + 1 : Nat) : Int) + (x2 : Int) = ((x1 * (r2.length + 1) + x2 : Nat) : Int) by rw [Int.natCast_add (x1 * (r2.length + 1)) x2, Int.natCast_mul x1 (r2.length + 1)]]
        · rintro H5 ⟨sm5, hl5⟩
          rw [← eg] at hl5
          clear eg a1 a2 g1 g2
          have gtg : ∀ c, gT (gPair L r1 r2) v c = (gPair L r1 r2 v).getD c 0 := fun c => rfl
          have nDd : D ≠ dn := fun z => by rw [z, hd4] at hD; cases hD
          have nDn : D ≠ nl := fun z => by rw [z, hn4] at hD; cases hD
          have nDr : D ≠ rl := fun z => by rw [z, hr4] at hD; cases hD
          generalize hgp : gPair L r1 r2 v = gp at *
          obtain ⟨wv, hwv, ewv⟩ := pi.rch v (List.mem_of_getElem? hv)
          refine ⟨_, rfl, D, rfl, ⟨_, SqL.of hl5⟩, ?_⟩
          refine for_list (K := K) (a := D) (xs := gp.map natV) (fun j σ H' => (∃ y16 : Option V, σ = [some x, some y, some (.ref fl), some (.ref p1), some (.ref q1), some (.ref p2), some (.ref q2), some (.int ((r2.length + 1 : Nat) : Int)), some (.ref dn), some (.ref nl), some (.ref rl), some (.int ((v : Int) / ((r2.length + 1 : Nat) : Int))), some (.int ((v : Int) % ((r2.length + 1 : Nat) : Int))), some (.ref D), none, none, y16, none]) ∧
            ∃ ns' : List Nat, Same H2 H' ∧ H' dn = some (.dK (numKv 0 ns')) ∧ H' nl = some (.lst (ns'.map natV)) ∧ H' rl = some (.lst (ras.map V.ref)) ∧ MemAt H' ras rows ∧ H' D = some (.lst (gp.map natV)) ∧ PI (gPair L r1 r2) L ns' rows ∧ ns'[rows.length]? = some v ∧ ∀ c, c < j → gp.getD c 0 ∈ ns')
            ⟨⟨_, rfl⟩, ns, sm4.trans sm5, sm5 _ _ hd4, sm5 _ _ hn4, sm5 _ _ hr4, mr4.keep (W := fun _ => False) (Keep.same sm5) (fun _ _ z => z), hl5, pi, hv, fun c hc => absurd hc (Nat.not_lt_zero _)⟩ (fun j σ H' _ p => SqL.of p.2.choose_spec.2.2.2.2.2.1) ?_ ?_
          · rintro j z σ H6 hz ⟨⟨y16', rfl⟩, ns', sm6, hd6, hn6, hr6, mr6, hl6, pi6, hv6, hall⟩
            obtain ⟨t, ht, rfl⟩ := natV_of hz
            have tj : gp.getD j 0 = t := by rw [List.getD_eq_getElem?_getD, ht]; rfl
            obtain ⟨vlt6, ns6⟩ := blt pi6
            have dg : DGet H6 dn (.int (t : Int)) (valV (numKv 0 ns') (.inl (t : Int))) := DGet.k (k := .inl (t : Int)) hd6
            refine ⟨_, rfl, _, rfl, dn, _, rfl, dg, _, rfl, ?_⟩
            by_cases hin : t ∈ ns'
            · obtain ⟨i, hi⟩ := List.mem_iff_getElem?.mp hin
              have hvv := numKv_at ns' 0 i t pi6.nd hi
              rw [hvv]
              refine ⟨⟨_, rfl⟩, ns', sm6, hd6, hn6, hr6, mr6, hl6, pi6, hv6, fun c hc => ?_⟩
              by_cases e : c = j
              · rw [e, tj]
                exact hin
              · exact hall c (by omega)
            · rw [numKv_no hin]
              have jL : j < L := by
                have := (List.getElem?_eq_some_iff.mp ht).1
                omega
              have pi7 := pi_grow pi6 hin ⟨j :: wv, fun c hc => by
                rcases List.mem_cons.mp hc with z | z
                · rw [z]
                  exact jL
                · exact hwv c z, by
                show gT (gPair L r1 r2) (walkr (gT (gPair L r1 r2)) 0 wv) j = t
                rw [ewv, gtg, tj]⟩
              obtain ⟨_, ns7⟩ := blt pi7
              rw [List.length_append, List.length_singleton] at ns7
              have nl15 : (numKv 0 ns').length < sizeLine := small9 (by rw [numKv_len]; omega)
              have dp : DPut H6 dn (.int (t : Int)) (.int ((ns'.map natV).length : Int)) (upd H6 dn (.dK (numKv 0 (ns' ++ [t])))) := by
                have := DPut.k (k := .inl (t : Int)) (v := .int ((ns'.map natV).length : Int)) hd6 nl15
                rw [List.length_map, numKv_put hin] at this
                rw [List.length_map]
                exact this
              have w1 : ∀ {z : Addr} {o : HO}, z ≠ dn → H6 z = some o → (upd H6 dn (.dK (numKv 0 (ns' ++ [t])))) z = some o := fun ne e => by rw [upd_ne ne]; exact e
              have hn7 := w1 nkd hn6
              have hr7 := w1 nld hr6
              have hl7 := w1 nDd hl6
              have hd7 : (upd H6 dn (.dK (numKv 0 (ns' ++ [t])))) dn = some (.dK (numKv 0 (ns' ++ [t]))) := upd_same
              have sm7 : Same H2 (upd H6 dn (.dK (numKv 0 (ns' ++ [t])))) := fun z o e => w1 (fr e).1 (sm6 _ _ e)
              have mr7 : MemAt (upd H6 dn (.dK (numKv 0 (ns' ++ [t])))) ras rows := ⟨mr6.ln, fun b a e => w1 (fa a (List.mem_of_getElem? e)).1 (mr6.at_ b a e)⟩
              generalize upd H6 dn (.dK (numKv 0 (ns' ++ [t]))) = G7 at *
              refine ⟨_, rfl, nl, _, rfl, .inl (SqL.of hn6), _, rfl, _, rfl, dn, G7, rfl, dp, ?_⟩
              refine ⟨_, rfl, .inl ⟨rfl, _, SqL.of hn7⟩, _, rfl, nl, _, _, rfl, rfl, hn7, small9 (by rw [List.length_map]; omega), ?_⟩
              rw [show ns'.map natV ++ [V.int (t : Int)] = (ns' ++ [t]).map natV by rw [List.map_append]; rfl]
              have w2 : ∀ {z : Addr} {o : HO}, z ≠ nl → G7 z = some o → (upd G7 nl (.lst ((ns' ++ [t]).map natV))) z = some o := fun ne e => by rw [upd_ne ne]; exact e
              refine ⟨⟨_, rfl⟩, ns' ++ [t], fun z o e => w2 (fr e).2.1 (sm7 _ _ e), w2 nkd.symm hd7, upd_same, w2 nlk hr7, ⟨mr7.ln, fun b a e => w2 (fa a (List.mem_of_getElem? e)).2.1 (mr7.at_ b a e)⟩, w2 nDn hl7, pi7, by rw [List.getElem?_append_left (List.getElem?_eq_some_iff.mp hv6).1]; exact hv6, fun c hc => ?_⟩
              by_cases e : c = j
              · rw [e, tj]
                exact List.mem_append_right _ (List.mem_singleton.mpr rfl)
              · exact List.mem_append_left _ (hall c (by omega))
          · rintro σ H6 ⟨⟨y16', rfl⟩, ns', sm6, hd6, hn6, hr6, mr6, hl6, pi6, hv6, hall⟩
            rw [List.length_map, gl.1] at hall
            obtain ⟨vlt6, ns6⟩ := blt pi6
            -- the row, by places
            refine ⟨_, rfl, .inl ⟨rfl, _, SqL.of hr6⟩, _, rfl, D, rfl, ⟨_, SqL.of hl6⟩, fun D2 nD2 => ?_⟩
            have D2s : ∀ {z : Addr} {o : HO}, H6 z = some o → z ≠ D2 := fun e q => by rw [q] at e; rw [e] at nD2; cases nD2
            refine lc_list (K := K) (a := D) (xs := gp.map natV) (NInv (fun t : Nat => natV (ns'.idxOf t)) gp H6 D2) (nstart nD2) (fun i H' _ q => SqL.of (q.1 _ _ hl6)) ?_ ?_
            · rintro i z H7 hz p7
              obtain ⟨t, ht, rfl⟩ := natV_of hz
              have iL := (List.getElem?_eq_some_iff.mp ht).1
              have tin : t ∈ ns' := by
                have := hall i (by omega)
                rw [List.getD_eq_getElem?_getD, ht] at this
                exact this
              obtain ⟨k0, hk0⟩ : ∃ k0, ns'[k0]? = some t := List.mem_iff_getElem?.mp tin
              have ek : ns'.idxOf t = k0 := by
                obtain ⟨kl, ke⟩ := List.getElem?_eq_some_iff.mp hk0
                rw [← ke]
                exact List.Nodup.idxOf_getElem pi6.nd k0 kl
              have hvv := numKv_at ns' 0 k0 t pi6.nd hk0
              rw [Nat.zero_add, ← ek] at hvv
              have dg : DGet H7 dn (.int (t : Int)) (valV (numKv 0 ns') (.inl (t : Int))) := DGet.k (k := .inl (t : Int)) (p7.1 _ _ hd6)
              rw [hvv] at dg
              refine ⟨rfl, _, rfl, _, rfl, dn, _, rfl, dg, ?_⟩
              exact nturn (f := fun t : Nat => natV (ns'.idxOf t)) (small9 (by omega)) nD2 ht p7 (Same.refl _)
            · rintro H7 p7
              obtain ⟨s7, hl7⟩ := nend (List.length_map _) p7
              have hr7 := s7 _ _ hr6
              have er : gp.map (fun t : Nat => natV (ns'.idxOf t)) = (gp.map ns'.idxOf).map natV := by rw [List.map_map]; rfl
              rw [er] at hl7
              refine ⟨rl, _, _, rfl, rfl, hr7, small9 (by rw [List.length_map]; have := mr6.ln; omega), ?_⟩
              have ea : ras.map V.ref ++ [V.ref D2] = (ras ++ [D2]).map V.ref := by rw [List.map_append]; rfl
              rw [ea]
              have nD2d := (D2s hd6).symm
              have nD2n := (D2s hn6).symm
              have nD2r := (D2s hr6).symm
              have w3 : ∀ {z : Addr} {o : HO}, z ≠ rl → H7 z = some o → (upd H7 rl (.lst ((ras ++ [D2]).map V.ref))) z = some o := fun ne e => by rw [upd_ne ne]; exact e
              have pi8 : PI (gPair L r1 r2) L ns' (rows ++ [gp.map ns'.idxOf]) := pi_row pi6 hv6 (by rw [List.length_map]; exact gl.1) fun c hc => by
                have cl : c < gp.length := by omega
                rw [gtg, getD_at (show c < (gp.map ns'.idxOf).length by rw [List.length_map]; exact cl), List.getElem_map]
                have tin := hall c hc
                rw [getD_at cl] at tin ⊢
                rw [List.getElem?_eq_getElem (List.idxOf_lt_length_iff.mpr tin), List.getElem_idxOf]
              have mr8 : MemAt (upd H7 rl (.lst ((ras ++ [D2]).map V.ref))) (ras ++ [D2]) (rows ++ [gp.map ns'.idxOf]) := by
                refine MemAt.push ⟨mr6.ln, fun b a e => w3 (fa a (List.mem_of_getElem? e)).2.2 (s7 _ _ (mr6.at_ b a e))⟩ (w3 nD2r hl7)
              refine ⟨⟨ns', rows ++ [gp.map ns'.idxOf], ras ++ [D2], _, _, _, _, rfl, fun z o e => w3 (fr e).2.2 (s7 _ _ (sm6 _ _ e)), w3 nld.symm (s7 _ _ hd6), w3 nlk.symm (s7 _ _ hn6), upd_same, mr8, fun a ha => ?_, pi8⟩, ?_⟩
              · rcases List.mem_append.mp ha with ha | ha
                · exact fa a ha
                · rw [List.mem_singleton.mp ha]
                  exact ⟨nD2d, nD2n, nD2r⟩
              · rw [upd_same, hr0]
                show 200001 - ((ras ++ [D2]).map V.ref).length < 200001 - (ras.map V.ref).length
                rw [List.length_map, List.length_map, List.length_append, List.length_singleton]
                omega
      · have hlt : ¬ (((ras.map V.ref).length : Int) < ((ns.map natV).length : Int)) := fun z => hlt (decide_eq_true z)
        rw [List.length_map, List.length_map] at hlt
        have hle := pi.le
        have heq : rows.length = ns.length := by omega
        refine ⟨_, rfl, nl, rfl, ⟨_, SqL.of hn⟩, fun D hD => ?_⟩
        refine lc_list (K := K) (a := nl) (xs := ns.map natV) (NInv (fun v : Nat => V.bl (pEnd g e1 e2 v)) ns H3 D) (nstart hD) (fun i H' _ q => SqL.of (q.1 _ _ hn)) ?_ ?_
        · rintro i z H7 hz p7
          obtain ⟨v, hv, rfl⟩ := natV_of hz
          have lv := vlt v (List.mem_of_getElem? hv)
          have hqv : v / (r2.length + 1) < r1.length + 1 := Nat.div_lt_of_lt_mul (by rw [Nat.mul_comm]; exact lv)
          have hmv : v % (r2.length + 1) < r2.length + 1 := Nat.mod_lt _ wp
          have d1 : (v : Int) / ((r2.length + 1 : Nat) : Int) = ((v / (r2.length + 1) : Nat) : Int) := (Int.natCast_ediv _ _).symm
          have d2 : (v : Int) % ((r2.length + 1 : Nat) : Int) = ((v % (r2.length + 1) : Nat) : Int) := (Int.natCast_emod _ _).symm
          have sm7 := sm.trans p7.1
          have el1 : v / (r2.length + 1) < (e1 ++ [false]).length := by rw [List.length_append, M1.es]; exact hqv
          have el2 : v % (r2.length + 1) < (e2 ++ [false]).length := by rw [List.length_append, M2.es]; exact hmv
          refine ⟨rfl, rfl, sm7 _ _ (s12 _ _ hfl), ?_⟩
          refine ⟨_, rfl, _, rfl, _, rfl, _, _, rfl, rfl, ⟨by omega, by omega⟩, q1, _, _, V.bl ((e1 ++ [false]).getD (v / (r2.length + 1)) false), rfl, rfl, SqL.of (sm7 _ _ hq12), by rw [d1]; exact atI_nat (by rw [List.getElem?_map, getD_at el1, List.getElem?_eq_getElem el1]; rfl), ?_⟩
          refine ⟨_, rfl, _, rfl, _, rfl, _, _, rfl, rfl, by omega, q2, _, _, V.bl ((e2 ++ [false]).getD (v % (r2.length + 1)) false), rfl, rfl, SqL.of (sm7 _ _ hq2), by rw [d2]; exact atI_nat (by rw [List.getElem?_map, getD_at el2, List.getElem?_eq_getElem el2]; rfl), ?_⟩
          refine ⟨sm7 _ _ (s12 _ _ hfl), sm7 _ _ (s12 _ _ hcl), _, _, rfl, ?_⟩
          have ep : g ((e1 ++ [false]).getD (v / (r2.length + 1)) false) ((e2 ++ [false]).getD (v % (r2.length + 1)) false) = pEnd g e1 e2 v := by
            unfold pEnd
            rw [M2.es]
          rw [ep]
          exact nturn (f := fun v : Nat => V.bl (pEnd g e1 e2 v)) (small9 (by omega)) hD hv p7 (Same.refl _)
        · rintro H7 p7
          obtain ⟨s7, hl7⟩ := nend (List.length_map _) p7
          have sm7 := s12.trans (sm.trans s7)
          obtain ⟨mm, pr, pe, rvs, rfl, _, MM⟩ := dt_mach (same_dt sm7 hx)
          have hr7 := s7 _ _ hr
          have mr7 := mr.keep (W := fun _ => False) (Keep.same s7) (fun _ _ z => z)
          have gok := p_ok pi heq nsN L1 L3
          have pa := p_acc M1 M2 pi heq L1 L3 nsN gf
          have cls := wcls_cls gok.row pa WC
          have ga : GA H7 L (pRows rows) false false rl (ras.map V.ref) := by
            refine ⟨.inl hr7, by unfold pRows; rw [List.length_map, List.length_map]; exact mr.ln, fun i row hrow => ?_⟩
            unfold pRows at hrow
            rw [List.getElem?_map] at hrow
            obtain ⟨r, hr', rfl⟩ := Option.map_eq_some_iff.mp hrow
            have il := (List.getElem?_eq_some_iff.mp hr').1
            obtain ⟨a, ha⟩ : ∃ a, ras[i]? = some a := ⟨_, List.getElem?_eq_getElem (by rw [mr.ln]; exact il)⟩
            refine ⟨a, by rw [List.getElem?_map, ha]; rfl, .inl ?_⟩
            have := mr7.at_ i a ha
            rw [List.getD_eq_getElem?_getD, hr'] at this
            rw [this, List.map_map]
            rfl
          refine ⟨_, rfl, mm, _, 0, _, rfl, rfl, .inl MM.hm, atI_nat (j := 0) rfl, _, rfl, _, rfl, L, pRows rows, ns.map (pEnd g e1 e2), false, false, false, rl, D, _, B, rfl, gok, by unfold pRows; rw [List.length_map, List.length_map]; exact heq.symm, cls, ga, .inl (by rw [hl7, List.map_map]; rfl), tb_same sm7 tb, fun H8 v out oe s8 d8 S8 => ?_⟩
          exact k H8 v out oe (sm7.trans s8) d8 ⟨_, _, S8, pa⟩ (small_mok S8 (small_len S8 cls (by decide)) L1 L3)
    · rintro σ H1 Q1 Q2 hQ ⟨x, e1, p0, ys0, e2, e3, y, e4, p, ys, e5, e6, i, j, e7, e8, b, e9, q⟩
      exact ⟨x, e1, p0, ys0, e2, e3, y, e4, p, ys, e5, e6, i, j, e7, e8, b, e9, hQ _ _ q⟩
end
theorem atI_neg1 {α : Type} {xs : List α} {v : α} (h : xs[xs.length - 1]? = some v) (hp : 1 ≤ xs.length) : atI xs (-1) = some v := by
  have e : ixN xs.length (-1) = some (xs.length - 1) := by
    unfold ixN
    rw [if_neg (by decide), if_pos (by omega)]
    congr 1
    omega
  unfold atI
  rw [e]
  exact h
section
open NdefX LamX
theorem rd_ext {H H' : Hp} (e : ExtN H H') {a : Addr} {u : HO} (nt : ∀ ps, u ≠ .tbl ps) (h : Rd H a u) : Rd H' a u := by
  rcases h with h | ⟨ob, h⟩
  · exact .inl (e _ _ h nt)
  · exact .inr ⟨ob, e _ _ h (fun _ z => nomatch z)⟩
mutual
theorem Dt.extN {B : Addr → Prop} {K : PySem.W.Frag} {H H' : Hp} (k : ExtN H H') : ∀ (d : PyData) (v : V), Dt B K H v d → Dt B K H' v d
  | .none, _, h => by cases h; exact .non
  | .bool _, _, h => by cases h; exact .bl _
  | .int _, _, h => by cases h; exact .int _
  | .str _, _, h => by cases h; exact .str _
  | .list ds, _, h => by
    cases h with
    | lst nb ne hs ha => exact .lst nb ne (rd_ext k (fun _ z => nomatch z) hs) (DtAll.extN k ds _ ha)
  | .tuple ds, _, h => by
    cases h with
    | tup nb hs ha => exact .tup nb (rd_ext k (fun _ z => nomatch z) hs) (DtAll.extN k ds _ ha)
  | .dict _, _, h => by
    cases h with
    | emp nb h => exact .emp nb (k _ _ h (fun _ z => nomatch z))
theorem DtAll.extN {B : Addr → Prop} {K : PySem.W.Frag} {H H' : Hp} (k : ExtN H H') : ∀ (ds : List PyData) (vs : List V), DtAll B K H vs ds → DtAll B K H' vs ds
  | [], _, h => by cases h; exact .nil
  | d :: ds, _, h => by
    cases h with
    | cons h1 h2 => exact .cons (Dt.extN k d _ h1) (DtAll.extN k ds _ h2)
end
theorem lst_ext {H H' : Hp} (k : ExtN H H') {a : Addr} {xs : List V} (h : H a = some (.lst xs)) : H' a = some (.lst xs) := k _ _ h (fun _ z => nomatch z)
theorem deck_ext {a c : Addr} {cells : List Int} {n : Int} {H H' : Hp} (k : ExtN H H') (h : DeckAt a c cells n H) : DeckAt a c cells n H' := ⟨h.1, lst_ext k h.2.1, lst_ext k h.2.2.1, h.2.2.2.1, h.2.2.2.2⟩
theorem tb_ext {B : Addr → Prop} {H H' : Hp} (k : ExtN H H') (h : ∀ b, B b → ∃ o, H b = some o ∧ ∀ ps, o ≠ .tbl ps) : TB B H' := fun b hb e => by
  obtain ⟨o, h1, h2⟩ := h b hb
  rw [k _ _ h1 h2] at e
  cases e
end
/-! ### both, either, less -/
section
open NdefX LamX
variable {P : Program} {w : World} {K : PySem.W.Frag} {mg : Str → Option Value} {base : Heap}
/-- objects that stay where tables grow -/
def TBx (B : Addr → Prop) (H : Hp) : Prop := ∀ b, B b → ∃ o, H b = some o ∧ ∀ ps, o ≠ .tbl ps
theorem TBx.tb {B : Addr → Prop} {H : Hp} (h : TBx B H) : TB B H := fun b z e => by
  obtain ⟨o, h1, _⟩ := h b z
  rw [e] at h1
  cases h1
theorem TBx.ext {B : Addr → Prop} {H H' : Hp} (x : ExtN H H') (h : TBx B H) : TBx B H' := fun b z => by
  obtain ⟨o, h1, h2⟩ := h b z
  exact ⟨o, x b o h1 h2, h2⟩
theorem TBx.same {B : Addr → Prop} {H H' : Hp} (s : Same H H') (h : TBx B H) : TBx B H' := TBx.ext (fun b o e _ => s b o e) h
/-- the smallest machine of what g makes of two languages -/
def spTwo (K : PySem.W.Frag) (TS : List NTab) (g : Bool → Bool → Bool) : Sp := fun vs H Q _ => ∃ (L : Nat) (r1 r2 : Rows) (e1 e2 : List Bool) (x y : V) (B : Addr → Prop), vs = [x, y] ∧ Dt B K H x (machDt L r1 e1) ∧ Dt B K H y (machDt L r2 e2) ∧ MOk L r1 e1 ∧ MOk L r2 e2 ∧ TBx B H ∧ TabsN TS H ∧
  WCls L (fun w => g (acc r1 e1 w 0) (acc r2 e2 w 0)) 400 ∧
  ∀ (H' : Hp) (v : V) (out : Rws) (oe : List Bool), ExtN H H' → TabsN TS H' → Dt B K H' v (machDt L out oe) → Best L (fun w => g (acc r1 e1 w 0) (acc r2 e2 w 0)) out oe → MOk L out oe → Q v H'
theorem scBoth : FnScope ["one", "other"] ["one", "other"] (defScope sBoth) := ⟨rfl, rfl, rfl, by decide +kernel, rfl, by decide +kernel, by decide +kernel⟩
def nmBoth (_ _ : Nat) : Str := "both.<locals>.<lambda>"
theorem ok_both {f fPD : Addr} {fd fdPD : FuncData} {c Pt : Addr} {TS : List NTab} (F : FunT K "both" "both" sBoth f fd c Pt) (TBp : TabB base mg c Pt) (hm : (Pt, nmBoth) ∈ TS) (nd : (TS.map (·.1)).Nodup)
    (PD : FnOk P w K mg base CX0 5 fPD fdPD ["one", "other", "ended"] (spPaired P w K mg base)) (FPD : Fun K "paired" "paired" sPaired fPD fdPD) (bPD : Binds K fdPD ["one", "other", "ended"] []) (gPD : mg "paired" = some (.ref fPD)) :
    FnOk P w K mg base CX0 6 f fd ["one", "other"] (spTwo K TS (fun a b => a && b)) := by
  obtain ⟨oc, od, kV, doc, pm, an, ct, osl, rfl, lk, hcd⟩ := F.ex
  refine fn_of lk hcd scBoth (fun vs H Q E h => ?_) (fun A outer s H vs Q E hr h => ?_)
  · obtain ⟨L, r1, r2, e1, e2, x, y, B, rfl, _⟩ := h
    rfl
  · obtain ⟨L, r1, r2, e1, e2, x, y, B, rfl, hx, hy, M1, M2, tb, tN, WC, k⟩ := h
    have term : ∃ t, PSs (cxOf CX0 P w K mg base ["one", "other"] "both" (defScope sBoth) f (.ref c) A outer s H E).nox (defBody sBoth) t ∧ t { nx := fun _ H' => Q .non H', rt := Q } (start ["one", "other"] [x, y]) H := by
      refine ⟨_, pss_one (ps_ret (pe_call PD (hr.mono (by decide)) (by rfl) gPD FPD.kp bPD .nil pass0 (pa_cons (pv 0) (pa_cons (pv 1) (pa_cons (pe_lamN (T := TS) (nm := nmBoth) TBp rfl hm (by kernel_rfl) (tab_hu nd hm) (by rfl) (by decide +kernel)) pa_nil))))), ?_⟩
      refine ⟨_, rfl, _, rfl, tN, fun fl c' H1 x1 t1 n1 h1 h2 => ?_⟩
      refine ⟨L, r1, r2, e1, e2, x, y, B, fl, _, _, (fun a b => a && b), rfl, Dt.extN x1 _ _ hx, Dt.extN x1 _ _ hy, M1, M2, (tb.ext x1).tb, h1, h2, ?_, rfl, WC, fun H' v out oe s' d' b' m' => k H' v out oe (x1.trans (ExtN.of s')) (t1.ext s') d' b' m'⟩
      refine lok_of (N := ["left", "right"]) (nscope_by (by kernel_rfl)) rfl (fun pm ctv us hl => ?_) (fun vs H Q E h => ?_) (fun A outer s H vs Q hr h => ?_)
      · match us, hl with
        | [_, _], _ => rfl
      · obtain ⟨a, b, rfl, _⟩ := h
        rfl
      · obtain ⟨a, b, rfl, q⟩ := h
        refine ⟨_, (pe_and (pv 0) (pe_one (pv 1))), ?_⟩
        refine ⟨_, rfl, a, rfl, ?_⟩
        cases a with
        | true => exact ⟨_, rfl, q⟩
        | false => exact q
    obtain ⟨t, h1, h2⟩ := term
    exact ⟨t, h1.nox, h2⟩
theorem scEither : FnScope ["one", "other"] ["one", "other"] (defScope sEither) := ⟨rfl, rfl, rfl, by decide +kernel, rfl, by decide +kernel, by decide +kernel⟩
def nmEither (_ _ : Nat) : Str := "either.<locals>.<lambda>"
theorem ok_either {f fPD : Addr} {fd fdPD : FuncData} {c Pt : Addr} {TS : List NTab} (F : FunT K "either" "either" sEither f fd c Pt) (TBp : TabB base mg c Pt) (hm : (Pt, nmEither) ∈ TS) (nd : (TS.map (·.1)).Nodup)
    (PD : FnOk P w K mg base CX0 5 fPD fdPD ["one", "other", "ended"] (spPaired P w K mg base)) (FPD : Fun K "paired" "paired" sPaired fPD fdPD) (bPD : Binds K fdPD ["one", "other", "ended"] []) (gPD : mg "paired" = some (.ref fPD)) :
    FnOk P w K mg base CX0 6 f fd ["one", "other"] (spTwo K TS (fun a b => a || b)) := by
  obtain ⟨oc, od, kV, doc, pm, an, ct, osl, rfl, lk, hcd⟩ := F.ex
  refine fn_of lk hcd scEither (fun vs H Q E h => ?_) (fun A outer s H vs Q E hr h => ?_)
  · obtain ⟨L, r1, r2, e1, e2, x, y, B, rfl, _⟩ := h
    rfl
  · obtain ⟨L, r1, r2, e1, e2, x, y, B, rfl, hx, hy, M1, M2, tb, tN, WC, k⟩ := h
    have term : ∃ t, PSs (cxOf CX0 P w K mg base ["one", "other"] "either" (defScope sEither) f (.ref c) A outer s H E).nox (defBody sEither) t ∧ t { nx := fun _ H' => Q .non H', rt := Q } (start ["one", "other"] [x, y]) H := by
      refine ⟨_, pss_one (ps_ret (pe_call PD (hr.mono (by decide)) (by rfl) gPD FPD.kp bPD .nil pass0 (pa_cons (pv 0) (pa_cons (pv 1) (pa_cons (pe_lamN (T := TS) (nm := nmEither) TBp rfl hm (by kernel_rfl) (tab_hu nd hm) (by rfl) (by decide +kernel)) pa_nil))))), ?_⟩
      refine ⟨_, rfl, _, rfl, tN, fun fl c' H1 x1 t1 n1 h1 h2 => ?_⟩
      refine ⟨L, r1, r2, e1, e2, x, y, B, fl, _, _, (fun a b => a || b), rfl, Dt.extN x1 _ _ hx, Dt.extN x1 _ _ hy, M1, M2, (tb.ext x1).tb, h1, h2, ?_, rfl, WC, fun H' v out oe s' d' b' m' => k H' v out oe (x1.trans (ExtN.of s')) (t1.ext s') d' b' m'⟩
      refine lok_of (N := ["left", "right"]) (nscope_by (by kernel_rfl)) rfl (fun pm ctv us hl => ?_) (fun vs H Q E h => ?_) (fun A outer s H vs Q hr h => ?_)
      · match us, hl with
        | [_, _], _ => rfl
      · obtain ⟨a, b, rfl, _⟩ := h
        rfl
      · obtain ⟨a, b, rfl, q⟩ := h
        refine ⟨_, (pe_or (pv 0) (pe_one (pv 1))), ?_⟩
        refine ⟨_, rfl, a, rfl, ?_⟩
        cases a with
        | true => exact q
        | false => exact ⟨_, rfl, q⟩
    obtain ⟨t, h1, h2⟩ := term
    exact ⟨t, h1.nox, h2⟩
theorem scLess : FnScope ["one", "other"] ["one", "other"] (defScope sLess) := ⟨rfl, rfl, rfl, by decide +kernel, rfl, by decide +kernel, by decide +kernel⟩
def nmLess (_ _ : Nat) : Str := "less.<locals>.<lambda>"
theorem ok_less {f fPD : Addr} {fd fdPD : FuncData} {c Pt : Addr} {TS : List NTab} (F : FunT K "less" "less" sLess f fd c Pt) (TBp : TabB base mg c Pt) (hm : (Pt, nmLess) ∈ TS) (nd : (TS.map (·.1)).Nodup)
    (PD : FnOk P w K mg base CX0 5 fPD fdPD ["one", "other", "ended"] (spPaired P w K mg base)) (FPD : Fun K "paired" "paired" sPaired fPD fdPD) (bPD : Binds K fdPD ["one", "other", "ended"] []) (gPD : mg "paired" = some (.ref fPD)) :
    FnOk P w K mg base CX0 6 f fd ["one", "other"] (spTwo K TS (fun a b => a && !b)) := by
  obtain ⟨oc, od, kV, doc, pm, an, ct, osl, rfl, lk, hcd⟩ := F.ex
  refine fn_of lk hcd scLess (fun vs H Q E h => ?_) (fun A outer s H vs Q E hr h => ?_)
  · obtain ⟨L, r1, r2, e1, e2, x, y, B, rfl, _⟩ := h
    rfl
  · obtain ⟨L, r1, r2, e1, e2, x, y, B, rfl, hx, hy, M1, M2, tb, tN, WC, k⟩ := h
    have term : ∃ t, PSs (cxOf CX0 P w K mg base ["one", "other"] "less" (defScope sLess) f (.ref c) A outer s H E).nox (defBody sLess) t ∧ t { nx := fun _ H' => Q .non H', rt := Q } (start ["one", "other"] [x, y]) H := by
      refine ⟨_, pss_one (ps_ret (pe_call PD (hr.mono (by decide)) (by rfl) gPD FPD.kp bPD .nil pass0 (pa_cons (pv 0) (pa_cons (pv 1) (pa_cons (pe_lamN (T := TS) (nm := nmLess) TBp rfl hm (by kernel_rfl) (tab_hu nd hm) (by rfl) (by decide +kernel)) pa_nil))))), ?_⟩
      refine ⟨_, rfl, _, rfl, tN, fun fl c' H1 x1 t1 n1 h1 h2 => ?_⟩
      refine ⟨L, r1, r2, e1, e2, x, y, B, fl, _, _, (fun a b => a && !b), rfl, Dt.extN x1 _ _ hx, Dt.extN x1 _ _ hy, M1, M2, (tb.ext x1).tb, h1, h2, ?_, rfl, WC, fun H' v out oe s' d' b' m' => k H' v out oe (x1.trans (ExtN.of s')) (t1.ext s') d' b' m'⟩
      refine lok_of (N := ["left", "right"]) (nscope_by (by kernel_rfl)) rfl (fun pm ctv us hl => ?_) (fun vs H Q E h => ?_) (fun A outer s H vs Q hr h => ?_)
      · match us, hl with
        | [_, _], _ => rfl
      · obtain ⟨a, b, rfl, _⟩ := h
        rfl
      · obtain ⟨a, b, rfl, q⟩ := h
        refine ⟨_, (pe_and (pv 0) (pe_one (pe_not (pv 1)))), ?_⟩
        refine ⟨_, rfl, a, rfl, ?_⟩
        cases a with
        | true => exact ⟨_, rfl, _, rfl, q⟩
        | false => exact q
    obtain ⟨t, h1, h2⟩ := term
    exact ⟨t, h1.nox, h2⟩
end
/-! ### how many words lead to each state -/
def vl (ws : List (Nat × Nat)) (t : Nat) : Nat := ((ws.find? fun p => decide (p.1 = t)).map (·.2)).getD 0
def addW (ws : List (Nat × Nat)) (t v : Nat) : List (Nat × Nat) := if t ∈ ws.map Prod.fst then ws.map (fun p => if p.1 = t then (t, p.2 + v) else p) else ws ++ [(t, v)]
def sumW (ws : List (Nat × Nat)) (f : Nat → Nat) : Nat := (ws.map fun p => p.2 * f p.1).sum
def rowStep (v : Nat) (acc : List (Nat × Nat)) : Option Nat → List (Nat × Nat)
  | none => acc
  | some t => addW acc t v
def onwStep (rs : Rws) (acc : List (Nat × Nat)) (p : Nat × Nat) : List (Nat × Nat) := (rs.getD p.1 []).foldl (rowStep p.2) acc
def onw (rs : Rws) (ws : List (Nat × Nat)) : List (Nat × Nat) := ws.foldl (onwStep rs) []
def optF (f : Nat → Nat) : Option Nat → Nat
  | none => 0
  | some t => f t
theorem addW_keys {ws : List (Nat × Nat)} {t v : Nat} (nd : (ws.map Prod.fst).Nodup) : ((addW ws t v).map Prod.fst).Nodup ∧ ∀ k, k ∈ (addW ws t v).map Prod.fst ↔ k ∈ ws.map Prod.fst ∨ k = t := by
  unfold addW
  by_cases h : t ∈ ws.map Prod.fst
  · rw [if_pos h]
    have e : (ws.map fun p => if p.1 = t then (t, p.2 + v) else p).map Prod.fst = ws.map Prod.fst := by
      rw [List.map_map]
      refine List.map_congr_left fun p _ => ?_
      show (if p.1 = t then (t, p.2 + v) else p).1 = p.1
      by_cases z : p.1 = t
      · rw [if_pos z, z]
      · rw [if_neg z]
    rw [e]
    exact ⟨nd, fun k => ⟨.inl, fun q => q.elim id fun z => by rw [z]; exact h⟩⟩
  · rw [if_neg h, List.map_append]
    refine ⟨List.nodup_append.mpr ⟨nd, List.nodup_cons.mpr ⟨List.not_mem_nil, List.nodup_nil⟩, fun a ha b hb e => h (by
      rw [List.mem_singleton.mp hb] at e
      have e : a = t := e
      rw [← e]
      exact ha)⟩, fun k => ?_⟩
    rw [List.mem_append]
    exact ⟨fun q => q.elim .inl fun z => .inr (List.mem_singleton.mp z), fun q => q.elim .inl fun z => .inr (List.mem_singleton.mpr z)⟩
theorem sumW_add {ws : List (Nat × Nat)} {t v : Nat} (nd : (ws.map Prod.fst).Nodup) (f : Nat → Nat) : sumW (addW ws t v) f = sumW ws f + v * f t := by
  unfold addW
  by_cases h : t ∈ ws.map Prod.fst
  · rw [if_pos h]
    induction ws with
    | nil => exact absurd h List.not_mem_nil
    | cons p ws ih =>
      obtain ⟨n1, n2⟩ := List.nodup_cons.mp nd
      unfold sumW at ih ⊢
      rw [List.map_cons, List.map_cons, List.sum_cons, List.map_cons, List.sum_cons]
      by_cases z : p.1 = t
      · rw [if_pos z]
        have e : (ws.map fun q => if q.1 = t then (t, q.2 + v) else q) = ws := by
          conv => rhs; rw [← List.map_id ws]
          refine List.map_congr_left fun q hq => ?_
          have : q.1 ≠ t := fun y => n1 (by rw [z, ← y]; exact List.mem_map_of_mem hq)
          rw [if_neg this]
          rfl
        rw [e, ← z]
        show (p.2 + v) * f p.1 + _ = _
        rw [Nat.add_mul]
        omega
      · rw [if_neg z]
        have h' : t ∈ ws.map Prod.fst := by
          rcases List.mem_cons.mp h with y | y
          · exact absurd y.symm z
          · exact y
        rw [ih n2 h']
        omega
  · rw [if_neg h]
    unfold sumW
    rw [List.map_append, List.sum_append]
    rfl
theorem rows_keys {v : Nat} : ∀ (row : List (Option Nat)) (acc : List (Nat × Nat)), (acc.map Prod.fst).Nodup → ((row.foldl (rowStep v) acc).map Prod.fst).Nodup ∧ ∀ k, k ∈ (row.foldl (rowStep v) acc).map Prod.fst → k ∈ acc.map Prod.fst ∨ some k ∈ row
  | [], acc, nd => ⟨nd, fun k => .inl⟩
  | none :: row, acc, nd => by
    obtain ⟨a, b⟩ := rows_keys row acc nd
    exact ⟨a, fun k hk => (b k hk).elim .inl fun z => .inr (List.mem_cons_of_mem _ z)⟩
  | some t :: row, acc, nd => by
    obtain ⟨a1, b1⟩ := addW_keys (t := t) (v := v) nd
    obtain ⟨a, b⟩ := rows_keys row (addW acc t v) a1
    refine ⟨a, fun k hk => ?_⟩
    rcases b k hk with z | z
    · rcases (b1 k).mp z with y | y
      · exact .inl y
      · rw [y]
        exact .inr List.mem_cons_self
    · exact .inr (List.mem_cons_of_mem _ z)
theorem sumW_row {v : Nat} (f : Nat → Nat) : ∀ (row : List (Option Nat)) (acc : List (Nat × Nat)), (acc.map Prod.fst).Nodup → sumW (row.foldl (rowStep v) acc) f = sumW acc f + v * (row.map (optF f)).sum
  | [], acc, _ => by
    show sumW acc f = sumW acc f + v * 0
    omega
  | none :: row, acc, nd => by
    show sumW (row.foldl (rowStep v) acc) f = _
    rw [sumW_row f row acc nd, List.map_cons, List.sum_cons]
    show _ = sumW acc f + v * (0 + _)
    rw [Nat.zero_add]
  | some t :: row, acc, nd => by
    show sumW (row.foldl (rowStep v) (addW acc t v)) f = _
    rw [sumW_row f row _ (addW_keys nd).1, sumW_add nd, List.map_cons, List.sum_cons]
    show _ = sumW acc f + v * (f t + _)
    rw [Nat.mul_add]
    omega
theorem onw_keys {rs : Rws} : ∀ (ws acc : List (Nat × Nat)), (acc.map Prod.fst).Nodup → ((ws.foldl (onwStep rs) acc).map Prod.fst).Nodup ∧ ∀ k, k ∈ (ws.foldl (onwStep rs) acc).map Prod.fst → k ∈ acc.map Prod.fst ∨ ∃ row ∈ rs, some k ∈ row
  | [], acc, nd => ⟨nd, fun k => .inl⟩
  | p :: ws, acc, nd => by
    obtain ⟨a1, b1⟩ := rows_keys (v := p.2) (rs.getD p.1 []) acc nd
    obtain ⟨a, b⟩ := onw_keys (rs := rs) ws (onwStep rs acc p) a1
    refine ⟨a, fun k hk => ?_⟩
    rcases b k hk with z | z
    · rcases b1 k z with y | y
      · exact .inl y
      · refine .inr ⟨_, ?_, y⟩
        rw [List.getD_eq_getElem?_getD] at y ⊢
        cases e : rs[p.1]? with
        | none =>
          rw [e] at y
          exact absurd y List.not_mem_nil
        | some row => exact List.mem_of_getElem? e
    · exact .inr z
theorem sumW_onw {rs : Rws} (f : Nat → Nat) : ∀ (ws acc : List (Nat × Nat)), (acc.map Prod.fst).Nodup → sumW (ws.foldl (onwStep rs) acc) f = sumW acc f + sumW ws (fun s => ((rs.getD s []).map (optF f)).sum)
  | [], acc, _ => rfl
  | p :: ws, acc, nd => by
    show sumW (ws.foldl (onwStep rs) (onwStep rs acc p)) f = _
    rw [sumW_onw f ws (onwStep rs acc p) (rows_keys (v := p.2) (rs.getD p.1 []) acc nd).1]
    have h1 : sumW (onwStep rs acc p) f = sumW acc f + p.2 * ((rs.getD p.1 []).map (optF f)).sum := sumW_row (v := p.2) f (rs.getD p.1 []) acc nd
    have h2 : sumW (p :: ws) (fun s => ((rs.getD s []).map (optF f)).sum) = p.2 * ((rs.getD p.1 []).map (optF f)).sum + sumW ws (fun s => ((rs.getD s []).map (optF f)).sum) := by
      unfold sumW
      rw [List.map_cons, List.sum_cons]
    rw [h1, h2, Nat.add_assoc]
/-- all words of a length -/
def wordsN (L : Nat) : Nat → List (List Nat)
  | 0 => [[]]
  | n + 1 => (wordsN L n).flatMap fun w => (List.range L).map fun c => w ++ [c]
/-- how many words of a length are of a language -/
def cntP (L : Nat) (p : List Nat → Bool) (n : Nat) : Nat := ((wordsN L n).map fun w => b2n (p w)).sum
def wayN (rs : Rws) : Nat → List (Nat × Nat)
  | 0 => [(0, 1)]
  | n + 1 => onw rs (wayN rs n)
theorem way_keys {L : Nat} {rs : Rows} (M : GOk L rs) : ∀ n, ((wayN rs n).map Prod.fst).Nodup ∧ ∀ k, k ∈ (wayN rs n).map Prod.fst → k < rs.length
  | 0 => ⟨List.nodup_cons.mpr ⟨List.not_mem_nil, List.nodup_nil⟩, fun k hk => by rw [List.mem_singleton.mp hk]; exact M.l1⟩
  | n + 1 => by
    obtain ⟨a, b⟩ := onw_keys (rs := rs) (wayN rs n) [] List.nodup_nil
    refine ⟨a, fun k hk => ?_⟩
    rcases b k hk with z | ⟨row, hr, z⟩
    · exact absurd z List.not_mem_nil
    · exact M.tgt row hr k z
theorem sum_flat {α β : Type} (g : β → Nat) (h : α → List β) : ∀ xs : List α, ((xs.flatMap h).map g).sum = (xs.map fun x => ((h x).map g).sum).sum
  | [] => rfl
  | x :: xs => by
    rw [List.flatMap_cons, List.map_append, List.sum_append, sum_flat g h xs, List.map_cons, List.sum_cons]
theorem row_sum {L : Nat} {rs : Rows} (M : GOk L rs) (f : Nat → Nat) {s : Nat} (hs : s < rs.length) : ((rs.getD s []).map (optF f)).sum = ((List.range L).map fun c => optF f (nx rs s c)).sum := by
  have hr := M.row _ (List.getElem_mem hs)
  have e : (rs.getD s []) = (List.range L).map fun c => nx rs s c := by
    rw [getD_at hs]
    refine List.ext_getElem? fun i => ?_
    rw [List.getElem?_map]
    by_cases hi : i < L
    · rw [List.getElem?_range hi]
      show _ = some (nx rs s i)
      unfold nx
      rw [getD_at hs, getD_at (by omega), List.getElem?_eq_getElem (by omega)]
    · rw [List.getElem?_eq_none (by omega), List.getElem?_eq_none (by rw [List.length_range]; omega)]
      rfl
  rw [e, List.map_map]
  rfl
theorem way_sum {L : Nat} {rs : Rows} (M : GOk L rs) : ∀ (n : Nat) (f : Nat → Nat), sumW (wayN rs n) f = ((wordsN L n).map fun w => optF f (run rs w 0)).sum
  | 0, f => by
    show 1 * f 0 + 0 = f 0 + 0
    omega
  | n + 1, f => by
    show sumW (onw rs (wayN rs n)) f = _
    unfold onw
    rw [sumW_onw f _ [] List.nodup_nil]
    have e0 : sumW [] f = 0 := rfl
    rw [e0, Nat.zero_add]
    have e1 : sumW (wayN rs n) (fun s => ((rs.getD s []).map (optF f)).sum) = sumW (wayN rs n) (fun s => ((List.range L).map fun c => optF f (nx rs s c)).sum) := by
      unfold sumW
      congr 1
      refine List.map_congr_left fun p hp => ?_
      show p.2 * ((rs.getD p.1 []).map (optF f)).sum = p.2 * ((List.range L).map fun c => optF f (nx rs p.1 c)).sum
      rw [row_sum M f ((way_keys M n).2 p.1 (List.mem_map_of_mem hp))]
    rw [e1, way_sum M n]
    show _ = (((wordsN L n).flatMap fun w => (List.range L).map fun c => w ++ [c]).map fun w => optF f (run rs w 0)).sum
    rw [sum_flat]
    congr 1
    refine List.map_congr_left fun w _ => ?_
    rw [List.map_map]
    cases hw : run rs w 0 with
    | none =>
      show 0 = _
      have : ∀ cs : List Nat, (cs.map ((fun w => optF f (run rs w 0)) ∘ fun c => w ++ [c])).sum = 0 := fun cs => by
        induction cs with
        | nil => rfl
        | cons c cs ih =>
          rw [List.map_cons, List.sum_cons, ih]
          show optF f (run rs (w ++ [c]) 0) + 0 = 0
          rw [run_snoc, hw]
          rfl
      exact (this _).symm
    | some s =>
      show ((List.range L).map fun c => optF f (nx rs s c)).sum = _
      congr 1
      refine List.map_congr_left fun c _ => ?_
      show _ = optF f (run rs (w ++ [c]) 0)
      rw [run_snoc, hw]
      rfl
theorem way_cnt {L : Nat} {rs : Rows} {es : List Bool} (M : GOk L rs) (n : Nat) : sumW (wayN rs n) (fun s => b2n (es.getD s false)) = cntP L (fun w => acc rs es w 0) n := by
  rw [way_sum M n]
  unfold cntP
  congr 1
  refine List.map_congr_left fun w _ => ?_
  cases hw : run rs w 0 with
  | none =>
    show 0 = b2n (acc rs es w 0)
    rw [← endO_acc, hw]
    rfl
  | some s =>
    show b2n (es.getD s false) = b2n (acc rs es w 0)
    rw [acc_end hw]
/-- counts of two languages add up -/
theorem cnt_add {L : Nat} {p q a b : List Nat → Bool} (h : ∀ w, b2n (p w) + b2n (q w) = b2n (a w) + b2n (b w)) (n : Nat) : cntP L p n + cntP L q n = cntP L a n + cntP L b n := by
  unfold cntP
  have : ∀ ws : List (List Nat), (ws.map fun w => b2n (p w)).sum + (ws.map fun w => b2n (q w)).sum = (ws.map fun w => b2n (a w)).sum + (ws.map fun w => b2n (b w)).sum := fun ws => by
    induction ws with
    | nil => rfl
    | cons w ws ih =>
      rw [List.map_cons, List.map_cons, List.map_cons, List.map_cons, List.sum_cons, List.sum_cons, List.sum_cons, List.sum_cons]
      have := h w
      omega
  exact this _
theorem words_mem {L : Nat} : ∀ (n : Nat) (w : List Nat), w ∈ wordsN L n ↔ (Wl L w ∧ w.length = n)
  | 0, w => by
    show w ∈ [[]] ↔ _
    rw [List.mem_singleton]
    exact ⟨fun e => by rw [e]; exact ⟨fun c hc => absurd hc List.not_mem_nil, rfl⟩, fun ⟨_, e⟩ => List.length_eq_zero_iff.mp e⟩
  | n + 1, w => by
    show w ∈ (wordsN L n).flatMap _ ↔ _
    rw [List.mem_flatMap]
    constructor
    · rintro ⟨v, hv, hw⟩
      obtain ⟨c, hc, rfl⟩ := List.mem_map.mp hw
      obtain ⟨a, b⟩ := (words_mem n v).mp hv
      refine ⟨fun x hx => ?_, by rw [List.length_append, b]; rfl⟩
      rcases List.mem_append.mp hx with z | z
      · exact a x z
      · rw [List.mem_singleton.mp z]
        exact List.mem_range.mp hc
    · rintro ⟨a, b⟩
      have ne : w ≠ [] := fun z => by rw [z] at b; cases b
      refine ⟨w.dropLast, (words_mem n _).mpr ⟨fun x hx => a x (List.dropLast_subset w hx), by rw [List.length_dropLast, b]; rfl⟩, List.mem_map.mpr ⟨w.getLast ne, List.mem_range.mpr (a _ (List.getLast_mem ne)), List.dropLast_concat_getLast ne⟩⟩
theorem cnt_pos {L : Nat} {p : List Nat → Bool} {n : Nat} : 0 < cntP L p n ↔ ∃ w, Wl L w ∧ w.length = n ∧ p w = true := by
  unfold cntP
  have key : ∀ ws : List (List Nat), 0 < (ws.map fun w => b2n (p w)).sum ↔ ∃ w ∈ ws, p w = true := fun ws => by
    induction ws with
    | nil => exact ⟨fun h => absurd h (Nat.lt_irrefl _), fun ⟨w, hw, _⟩ => absurd hw List.not_mem_nil⟩
    | cons w ws ih =>
      rw [List.map_cons, List.sum_cons]
      cases e : p w with
      | true => exact ⟨fun _ => ⟨w, List.mem_cons_self, e⟩, fun _ => by show 0 < 1 + _; omega⟩
      | false =>
        show 0 < 0 + _ ↔ _
        rw [Nat.zero_add, ih]
        exact ⟨fun ⟨v, hv, h⟩ => ⟨v, List.mem_cons_of_mem _ hv, h⟩, fun ⟨v, hv, h⟩ => by
          rcases List.mem_cons.mp hv with z | z
          · rw [z, e] at h
            cases h
          · exact ⟨v, z, h⟩⟩
  rw [key]
  exact ⟨fun ⟨w, hw, h⟩ => let ⟨a, b⟩ := (words_mem n w).mp hw; ⟨w, a, b, h⟩, fun ⟨w, a, b, h⟩ => ⟨w, (words_mem n w).mpr ⟨a, b⟩, h⟩⟩
/-! ### onward, counts, count -/
def wKv (ws : List (Nat × Nat)) : List (Key × V) := ws.map fun p => (.inl (p.1 : Int), .int (p.2 : Int))
theorem inl_eq {a b : Nat} : ((.inl (a : Int) : Key) = .inl (b : Int)) ↔ a = b := ⟨fun e => by have := Sum.inl.inj e; omega, fun e => by rw [e]⟩
theorem wKv_val : ∀ (ws : List (Nat × Nat)) (t : Nat), valV (wKv ws) (.inl (t : Int)) = if t ∈ ws.map Prod.fst then some (.int (vl ws t : Int)) else none
  | [], t => rfl
  | p :: ws, t => by
    have ih := wKv_val ws t
    unfold valV wKv at ih ⊢
    rw [List.map_cons]
    by_cases e : p.1 = t
    · rw [List.find?_cons_of_pos (by exact decide_eq_true (inl_eq.mpr e)), if_pos (by rw [List.map_cons, e]; exact List.mem_cons_self)]
      unfold vl
      rw [List.find?_cons_of_pos (by exact decide_eq_true e)]
      rfl
    · rw [List.find?_cons_of_neg (by rw [decide_eq_true_eq]; exact fun z => e (inl_eq.mp z)), ih]
      have e1 : vl (p :: ws) t = vl ws t := by
        unfold vl
        rw [List.find?_cons_of_neg (by rw [decide_eq_true_eq]; exact e)]
      rw [e1, List.map_cons]
      by_cases m : t ∈ ws.map Prod.fst
      · rw [if_pos m, if_pos (List.mem_cons_of_mem _ m)]
      · rw [if_neg m, if_neg (fun z => by
          rcases List.mem_cons.mp z with z | z
          · exact e z.symm
          · exact m z)]
theorem vl_no {ws : List (Nat × Nat)} {t : Nat} (h : t ∉ ws.map Prod.fst) : vl ws t = 0 := by
  unfold vl
  rw [List.find?_eq_none.mpr fun p hp z => h (by rw [← of_decide_eq_true z]; exact List.mem_map_of_mem hp)]
  rfl
theorem vl_at {ws : List (Nat × Nat)} (nd : (ws.map Prod.fst).Nodup) {p : Nat × Nat} (h : p ∈ ws) : vl ws p.1 = p.2 := by
  induction ws with
  | nil => exact absurd h List.not_mem_nil
  | cons q ws ih =>
    obtain ⟨n1, n2⟩ := List.nodup_cons.mp nd
    unfold vl
    rcases List.mem_cons.mp h with z | z
    · rw [z, List.find?_cons_of_pos (by exact decide_eq_true rfl)]
      rfl
    · have : q.1 ≠ p.1 := fun e => n1 (by rw [e]; exact List.mem_map_of_mem z)
      rw [List.find?_cons_of_neg (by rw [decide_eq_true_eq]; exact this)]
      exact ih n2 z
theorem wKv_get (ws : List (Nat × Nat)) (t : Nat) : (valV (wKv ws) (.inl (t : Int))).getD (.int 0) = .int (vl ws t : Int) := by
  rw [wKv_val]
  by_cases m : t ∈ ws.map Prod.fst
  · rw [if_pos m]
    rfl
  · rw [if_neg m, vl_no m]
    rfl
theorem wKv_put {ws : List (Nat × Nat)} {t v : Nat} (nd : (ws.map Prod.fst).Nodup) : putK (wKv ws) (.inl (t : Int)) (.int ((vl ws t : Int) + (v : Int))) = wKv (addW ws t v) := by
  have any : ((wKv ws).any fun kv => decide (kv.1 = (.inl (t : Int) : Key))) = true ↔ t ∈ ws.map Prod.fst := by
    rw [List.any_eq_true]
    constructor
    · rintro ⟨x, hx, e⟩
      unfold wKv at hx
      obtain ⟨p, hp, rfl⟩ := List.mem_map.mp hx
      have e : (.inl (p.1 : Int) : Key) = .inl (t : Int) := of_decide_eq_true e
      rw [← inl_eq.mp e]
      exact List.mem_map_of_mem hp
    · intro h
      obtain ⟨p, hp, e⟩ := List.mem_map.mp h
      exact ⟨_, List.mem_map_of_mem hp, decide_eq_true (inl_eq.mpr e)⟩
  unfold putK addW
  by_cases m : t ∈ ws.map Prod.fst
  · rw [if_pos (any.mpr m), if_pos m]
    unfold wKv
    rw [List.map_map, List.map_map]
    refine List.map_congr_left fun p hp => ?_
    show (if (.inl (p.1 : Int) : Key) = .inl (t : Int) then ((.inl (p.1 : Int) : Key), V.int ((vl ws t : Int) + (v : Int))) else (.inl (p.1 : Int), .int (p.2 : Int))) = (.inl ((if p.1 = t then (t, p.2 + v) else p).1 : Int), .int ((if p.1 = t then (t, p.2 + v) else p).2 : Int))
    by_cases e : p.1 = t
    · rw [if_pos (inl_eq.mpr e), if_pos e, ← e, vl_at nd hp]
      show _ = ((.inl (p.1 : Int) : Key), V.int ((p.2 + v : Nat) : Int))
      rw [Int.natCast_add]
    · rw [if_neg (fun z => e (inl_eq.mp z)), if_neg e]
  · rw [if_neg (fun z => m (any.mp z)), if_neg m, vl_no m]
    unfold wKv
    rw [List.map_append]
    show _ = _ ++ [((.inl (t : Int) : Key), V.int (v : Int))]
    rw [show ((0 : Nat) : Int) + (v : Int) = (v : Int) by omega]
theorem sq_keep {t : Bool} {H H' : Hp} {a d : Addr} {xs : List V} {kvs : List (Key × V)} (hd : H d = some (.dK kvs)) (k : Keep (fun b => b = d) H H') (h : Sq t H a xs) : Sq t H' a xs := by
  have ne : a ≠ d := fun e => by
    subst e
    cases t <;> rcases h with h | ⟨_, h⟩ <;> (rw [hd] at h; cases h)
  cases t <;> exact Keep.rd k ne h
theorem GA.keepD {H H' : Hp} {L : Nat} {rs : Rows} {t u : Bool} {pr d : Addr} {rvs : List V} {kvs : List (Key × V)} (hd : H d = some (.dK kvs)) (k : Keep (fun b => b = d) H H') (M : GA H L rs t u pr rvs) : GA H' L rs t u pr rvs :=
  ⟨sq_keep hd k M.hr, M.hl, fun i row h => let ⟨q, h1, h2⟩ := M.row i row h; ⟨q, h1, sq_keep hd k h2⟩⟩

section
variable {P : Program} {w : World} {K : PySem.W.Frag} {mg : Str → Option Value} {base : Heap}
theorem scOnward : FnScope ["rows", "ways", "longer", "state", "target"] ["rows", "ways"] (defScope sOnward) := ⟨rfl, rfl, rfl, by decide +kernel, rfl, by decide +kernel, by decide +kernel⟩
def spOnward : Sp := fun vs H Q _ => ∃ (L : Nat) (rs : Rows) (t u : Bool) (pr dw : Addr) (rvs : List V) (ws : List (Nat × Nat)), vs = [.ref pr, .ref dw] ∧ GOk L rs ∧ GA H L rs t u pr rvs ∧ H dw = some (.dK (wKv ws)) ∧ (ws.map Prod.fst).Nodup ∧ (∀ k ∈ ws.map Prod.fst, k < rs.length) ∧
  ∀ (H' : Hp) (p : Addr), Same H H' → H p = none → H' p = some (.dK (wKv (onw rs ws))) → Q (.ref p) H'
theorem ok_onward {f : Addr} {fd : FuncData} (F : Fun K "onward" "onward" sOnward f fd) (T : Mg mg) : FnOk P w K mg base CX0 1 f fd ["rows", "ways"] spOnward := by
  refine F.ok scOnward (fun vs H Q E h => ?_) (fun cdv A outer s H vs Q E hr h => ?_)
  · obtain ⟨L, rs, kt, ku, pr, dw, rvs, ws, rfl, _⟩ := h
    rfl
  · obtain ⟨L, rs, kt, ku, pr, dw, rvs, ws, rfl, M, MM, hdw, nd, klt, k⟩ := h
    have hu1 := hu_of hr
    refine ⟨_, (pss_cons (ps_set (i := 2) scOnward.nd rfl (.inl rfl) pe_dnewK)
      (pss_cons (ps_lock (ps_for PassesOwn.never rfl (pi_keys (pv 1)) (pg_name (i := 3) scOnward.nd rfl (.inl rfl)) (pss_one (ps_for PassesOwn.never rfl (pi_seq (pe_ix (r := rIxQ) ix_any (pv 0) (pv 3) (fun _ _ => rfl))) (pg_name (i := 4) scOnward.nd rfl (.inl rfl)) (pss_one (ps_if (pt_cmp (pc_notN (pv 4))) (pss_one (ps_asg (pe_op op_add (pe_dget2 hu1 (pv 2) (pv 4) pe_int ⟨rfl, rfl, rfl, rfl⟩) (pe_dget hu1 (pv 1) (pv 3) (fun _ _ => rfl))) (pg_sub (pv 2) (pv 4) (set_dict hu1)))) pss_nil))))))
      (pss_one (ps_ret (pv 2))))), ?_⟩
    intro dn hdn
    have s1 := same_new (o := .dK ([] : List (Key × V))) hdn
    have hd0 := s1 _ _ hdw
    have hn0 : (upd H dn (.dK [])) dn = some (.dK (wKv [])) := upd_same
    have ndw : dn ≠ dw := fun z => by rw [z, hdw] at hdn; cases hdn
    generalize upd H dn (.dK []) = H1 at *
    refine ⟨dw, .dK (wKv ws), hd0, trivial, fun od => ?_⟩
    have gd : (upd H1 dw (.frz od (.dK (wKv ws)))) dw = some (.frz od (.dK (wKv ws))) := upd_same
    have gn : (upd H1 dw (.frz od (.dK (wKv ws)))) dn = some (.dK (wKv [])) := by rw [upd_ne ndw]; exact hn0
    have kp : Keep (fun b => b = dw) H (upd H1 dw (.frz od (.dK (wKv ws)))) := fun b o nb e => by
      rw [upd_ne nb]
      exact s1 _ _ e
    generalize upd H1 dw (.frz od (.dK (wKv ws))) = H2 at *
    refine ⟨_, rfl, dw, od, rfl, .inl ⟨wKv ws, gd, ?_⟩⟩
    have lw : (wKv ws).length = ws.length := List.length_map _
    have wl : ws.length ≤ 200000 := by
      have h1 := nodup_len nd klt
      rw [List.length_map] at h1
      exact Nat.le_trans h1 M.lN
    have accN : ∀ {acc : List (Nat × Nat)}, (acc.map Prod.fst).Nodup → (∀ k ∈ acc.map Prod.fst, k < rs.length) → acc.length ≤ 200000 := fun {acc} a b => by
      have h1 := nodup_len a b
      rw [List.length_map] at h1
      exact Nat.le_trans h1 M.lN
    refine for_it (walk_keys (d := dw) (o := od) (kvs := wKv ws)) (fun i σ H' => (∃ y3 y4 : Option V, σ = [some (.ref pr), some (.ref dw), some (.ref dn), y3, y4]) ∧ H' dw = some (.frz od (.dK (wKv ws))) ∧ Keep (fun b => b = dw) H H' ∧ H' dn = some (.dK (wKv ((ws.take i).foldl (onwStep rs) []))) ∧
        (((ws.take i).foldl (onwStep rs) []).map Prod.fst).Nodup ∧ ∀ k ∈ ((ws.take i).foldl (onwStep rs) []).map Prod.fst, k < rs.length)
      ⟨⟨_, _, rfl⟩, gd, kp, gn, List.nodup_nil, fun k hk => absurd hk List.not_mem_nil⟩ (fun i σ H' _ p => p.2.1) ?_ ?_
    · rintro i x σ H3 H4 hi ⟨⟨y3, y4, rfl⟩, gd3, kp3, gn3, nd3, lt3⟩ ⟨rfl, key, vv, hkv, rfl⟩
      unfold wKv at hkv
      rw [List.getElem?_map] at hkv
      obtain ⟨p, hp, e⟩ := Option.map_eq_some_iff.mp hkv
      cases e
      have pm := List.mem_of_getElem? hp
      have pl := klt p.1 (List.mem_map_of_mem pm)
      have hrow : rs[p.1]? = some rs[p.1] := List.getElem?_eq_getElem pl
      have hmr := List.getElem_mem pl
      have gD : rs.getD p.1 [] = rs[p.1] := getD_at pl
      have tk : (ws.take (i + 1)).foldl (onwStep rs) [] = (rs[p.1]).foldl (rowStep p.2) ((ws.take i).foldl (onwStep rs) []) := by
        rw [List.take_add_one, hp, List.foldl_append]
        show onwStep rs _ p = _
        unfold onwStep
        rw [gD]
      rw [tk]
      generalize rs[p.1] = row at *
      generalize (ws.take i).foldl (onwStep rs) [] = acc at *
      have MM3 := MM.keepD hdw kp3
      obtain ⟨q, hq1, hq2⟩ := MM.row p.1 row hrow
      refine ⟨_, rfl, _, rfl, kt, pr, rvs, (p.1 : Int), _, rfl, rfl, MM3.hr, atI_nat hq1, ku, q, _, rfl, sq_keep hdw kp3 hq2, ?_⟩
      refine for_seq (t := ku) (K := K) (a := q) (xs := row.map oV) (fun j σ H' => (∃ y4 : Option V, σ = [some (.ref pr), some (.ref dw), some (.ref dn), some (.int (p.1 : Int)), y4]) ∧ H' dw = some (.frz od (.dK (wKv ws))) ∧ Keep (fun b => b = dw) H H' ∧ H' dn = some (.dK (wKv ((row.take j).foldl (rowStep p.2) acc))))
        ⟨⟨_, rfl⟩, gd3, kp3, gn3⟩ (fun j σ H' _ p => sq_keep hdw p.2.2.1 hq2) ?_ ?_
      · rintro j x σ H5 hx ⟨⟨y4', rfl⟩, gd5, kp5, gn5⟩
        rw [List.getElem?_map] at hx
        obtain ⟨o, ho, rfl⟩ := Option.map_eq_some_iff.mp hx
        have tj : (row.take (j + 1)).foldl (rowStep p.2) acc = rowStep p.2 ((row.take j).foldl (rowStep p.2) acc) o := by
          rw [List.take_add_one, ho, List.foldl_append]
          rfl
        rw [tj]
        obtain ⟨nd5, lt5⟩ := rows_keys (v := p.2) (row.take j) acc nd3
        have lt5' : ∀ k ∈ ((row.take j).foldl (rowStep p.2) acc).map Prod.fst, k < rs.length := fun k hk => by
          rcases lt5 k hk with z | z
          · exact lt3 k z
          · exact M.tgt row hmr k (List.mem_of_mem_take z)
        have aN := accN nd5 lt5'
        generalize (row.take j).foldl (rowStep p.2) acc = ac at *
        refine ⟨_, rfl, _, rfl, ?_⟩
        cases o with
        | none => exact ⟨⟨_, rfl⟩, gd5, kp5, gn5⟩
        | some t =>
          have dgw : DGet H5 dw (.int (p.1 : Int)) (some (.int (p.2 : Int))) := by
            refine .inl ⟨wKv ws, .inl (p.1 : Int), .inr ⟨od, gd5⟩, rfl, ?_⟩
            rw [wKv_val, if_pos (List.mem_map_of_mem pm), vl_at nd pm]
          have dgl : DGet H5 dn (.int (t : Int)) (valV (wKv ac) (.inl (t : Int))) := DGet.k (k := .inl (t : Int)) gn5
          refine ⟨_, rfl, dn, rfl, .inl ⟨_, .inl gn5⟩, _, rfl, _, dgl, _, rfl, _, rfl, dw, _, rfl, dgw, ?_⟩
          rw [wKv_get]
          have nl15 : (wKv ac).length < sizeLine := small9 (by unfold wKv; rw [List.length_map]; omega)
          have dp : DPut H5 dn (.int (t : Int)) (.int ((vl ac t : Int) + (p.2 : Int))) (upd H5 dn (.dK (wKv (addW ac t p.2)))) := by
            have := DPut.k (k := .inl (t : Int)) (v := .int ((vl ac t : Int) + (p.2 : Int))) gn5 nl15
            rw [wKv_put nd5] at this
            exact this
          refine ⟨_, _, rfl, rfl, _, rfl, _, rfl, dn, _, rfl, dp, ?_⟩
          refine ⟨⟨_, rfl⟩, by rw [upd_ne ndw.symm]; exact gd5, fun b o nb e => ?_, upd_same⟩
          rw [upd_ne (ne_of_none e hdn)]
          exact kp5 _ _ nb e
      · rintro σ H5 ⟨⟨y4', rfl⟩, gd5, kp5, gn5⟩
        rw [List.length_map, List.take_length] at gn5
        obtain ⟨nd5, lt5⟩ := rows_keys (v := p.2) row acc nd3
        exact ⟨⟨_, _, rfl⟩, gd5, kp5, gn5, nd5, fun k hk => (lt5 k hk).elim (lt3 k) fun z => M.tgt row hmr k z⟩
    · rintro σ H3 ⟨⟨y3, y4, rfl⟩, gd3, kp3, gn3, nd3, lt3⟩
      rw [lw, List.take_length] at gn3
      refine ⟨gd3, _, rfl, k _ dn (fun b o e => ?_) hdn (by rw [upd_ne ndw]; exact gn3)⟩
      by_cases z : b = dw
      · rw [z, upd_same, ← hdw, ← e, z]
      · rw [upd_ne z]
        exact kp3 _ _ z e
end
/-! ### counts, count -/
theorem fil_sum (es : List Bool) : ∀ ws : List (Nat × Nat), ((ws.filter fun p : Nat × Nat => es.getD p.1 false).map fun p => (p.2 : Int)).sum = (((ws.map fun p => p.2 * b2n (es.getD p.1 false)).sum : Nat) : Int)
  | [] => rfl
  | p :: ws => by
    rw [List.map_cons, List.sum_cons, List.filter_cons]
    cases e : es.getD p.1 false with
    | true =>
      rw [if_pos rfl, List.map_cons, List.sum_cons, fil_sum es ws, Int.natCast_add]
      show (p.2 : Int) + _ = ((p.2 * 1 : Nat) : Int) + _
      rw [Nat.mul_one]
    | false =>
      rw [if_neg Bool.false_ne_true, fil_sum es ws, Int.natCast_add]
      show _ = ((p.2 * 0 : Nat) : Int) + _
      rw [Nat.mul_zero]
      omega
section
variable {P : Program} {w : World} {K : PySem.W.Frag} {mg : Str → Option Value} {base : Heap}
theorem scCounts : FnScope ["machine", "many", "_", "rows", "ends", "ways", "numbers", "state"] ["machine", "many"] (defScope sCounts) := ⟨rfl, rfl, rfl, by decide +kernel, rfl, by decide +kernel, by decide +kernel⟩
def spCounts (K : PySem.W.Frag) : Sp := fun vs H Q _ => ∃ (L n : Nat) (rs : Rows) (es : List Bool) (x : V) (B : Addr → Prop), vs = [x, .int (n : Int)] ∧ Dt B K H x (machDt L rs es) ∧ MOk L rs es ∧ n ≤ 1000 ∧
  ∀ (H' : Hp) (p : Addr), Same H H' → H p = none → p ≠ sysModules → H' p = some (.lst ((List.range n).map fun k => natV (cntP L (fun w => acc rs es w 0) k))) → Q (.ref p) H'
theorem ok_counts {f fON : Addr} {fd fdON : FuncData} (F : Fun K "counts" "counts" sCounts f fd)
    (ON : FnOk P w K mg base CX0 1 fON fdON ["rows", "ways"] spOnward) (FON : Fun K "onward" "onward" sOnward fON fdON) (bON : Binds K fdON ["rows", "ways"] []) (gON : mg "onward" = some (.ref fON)) (T : Mg mg) (mSum : mg "sum" = none) : FnOk P w K mg base CX0 2 f fd ["machine", "many"] (spCounts K) := by
  refine F.ok scCounts (fun vs H Q E h => ?_) (fun cdv A outer s H vs Q E hr h => ?_)
  · obtain ⟨L, n, rs, es, x, B, rfl, _⟩ := h
    rfl
  · obtain ⟨L, n, rs, es, x, B, rfl, hx, M, n9, k⟩ := h
    have hu1 := hu_of hr
    refine ⟨_, (pss_cons (ps_asg (pv 0) (pg_tup rfl (pgs_cons (pg_name (i := 2) scCounts.nd rfl (.inl rfl)) (pgs_cons (pg_name (i := 3) scCounts.nd rfl (.inl rfl)) (pgs_cons (pg_name (i := 4) scCounts.nd rfl (.inr rfl)) pgs_nil)))))
      (pss_cons (ps_set (i := 5) scCounts.nd rfl (.inr rfl) (pe_disp (pps_cons pe_int pe_int pps_nil) (by rfl) (by rfl) (fun z => by cases z) (by decide)))
      (pss_cons (ps_set (i := 6) scCounts.nd rfl (.inl rfl) (pe_lstA pa_nil))
      (pss_cons (ps_for PassesOwn.never rfl (pi_range1 (by rfl) T.range (pa_cons (pv 1) pa_nil)) (pg_name (i := 2) scCounts.nd rfl (.inl rfl)) (pss_cons (ps_expr (pe_bm PySem.F.plainAttrs_list PySem.F.slot_list_append PySem.F.type_list_append mt_append (pv 6) (pa_cons (pe_callB (r := rSum K) (cr_sum rfl) (by rfl) mSum (by decide +kernel) (pa_cons (pe_lock (pe_lc (own := [("state", 7)]) (g := gName 7) rfl scCounts.nd (pi_keys (pv 5)) (blkOk_by (N := ["machine", "many", "_", "rows", "ends", "ways", "numbers", "state"]) (sc := defScope sCounts) (by decide +kernel)) (fun _ _ _ _ _ => pg_name (i := 7) scCounts.nd rfl (Or.inl rfl)) (fun _ _ _ _ _ => pts_one (pt_val (pe_ix (r := rIxT K) ix_tup (pv 4) (pv 7) (fun _ _ => rfl)))) (fun _ _ _ _ _ => pe_dget hu1 (pv 5) (pv 7) (fun _ _ => rfl)))) pa_nil)) pa_nil)))
      (pss_one (ps_set (i := 5) scCounts.nd rfl (.inr rfl) (pe_call ON (hr.mono (by decide)) (by rfl) gON FON.kp bON .nil pass0 (pa_cons (pv 3) (pa_cons (pv 5) pa_nil)))))))
      (pss_one (ps_ret (pv 6))))))), ?_⟩
    obtain ⟨m, pr, pe, rvs, rfl, _, MM⟩ := dt_mach hx
    have el := M.es
    refine ⟨_, rfl, m, _, rfl, .inl MM.hm, rfl, _, _, rfl, _, _, rfl, _, _, rfl, rfl, ?_⟩
    intro d0 hd0
    refine ⟨upd_same, [(.inl 0, .int 1)], rfl, by show 1 ≤ 15; decide, ?_⟩
    rw [upd_upd]
    have s1 := same_new (o := .dK (mergeK [] [(.inl 0, V.int 1)])) hd0
    have hd1 : (upd H d0 (.dK (mergeK [] [(.inl 0, V.int 1)]))) d0 = some (.dK (wKv (wayN rs 0))) := upd_same
    generalize upd H d0 (.dK (mergeK [] [(.inl 0, V.int 1)])) = G1 at *
    refine ⟨by show 0 ≤ sizeLine; decide, fun np H2 s2 np0 nps hnp => ?_⟩
    have npH := sfree s1 np0
    refine ⟨_, rfl, (n : Int), rfl, by omega, by omega, ?_⟩
    refine for_range (lo := 0) (n := (n : Int).toNat) (fun i σ H' => (∃ (dw : Addr) (y2 y7 : Option V), σ = [some (.ref m), some (.int (n : Int)), y2, some (.ref pr), some (.ref pe), some (.ref dw), some (.ref np), y7] ∧ H' dw = some (.dK (wKv (wayN rs i)))) ∧ Same H H' ∧ H' np = some (.lst ((List.range i).map fun k => natV (cntP L (fun w => acc rs es w 0) k))))
      ⟨⟨d0, _, _, rfl, s2 _ _ hd1⟩, s1.trans s2, hnp⟩ ?_ ?_
    · rintro i σ H3 hi ⟨⟨dw, y2, y7, rfl, hdw⟩, sm, hn3⟩
      obtain ⟨nd, klt⟩ := way_keys M.g i
      have nwn : np ≠ dw := fun z => by rw [z, hdw] at hn3; cases hn3
      have lw : (wKv (wayN rs i)).length = (wayN rs i).length := List.length_map _
      have wl : (wayN rs i).length ≤ 200000 := by
        have h1 := nodup_len nd klt
        rw [List.length_map] at h1
        exact Nat.le_trans h1 M.g.lN
      refine ⟨_, rfl, .inl ⟨rfl, _, SqL.of hn3⟩, dw, .dK (wKv (wayN rs i)), hdw, trivial, fun od => ?_⟩
      have gd : (upd H3 dw (.frz od (.dK (wKv (wayN rs i))))) dw = some (.frz od (.dK (wKv (wayN rs i)))) := upd_same
      have kp : ∀ {b : Addr} {o : HO}, b ≠ dw → H3 b = some o → (upd H3 dw (.frz od (.dK (wKv (wayN rs i))))) b = some o := fun nb e => by rw [upd_ne nb]; exact e
      have kpe : Rd (upd H3 dw (.frz od (.dK (wKv (wayN rs i))))) pe (.tup (es.map V.bl)) := by
        have h0 := same_rd sm MM.he
        have ne : pe ≠ dw := fun z => by
          rw [z] at h0
          rcases h0 with h0 | ⟨_, h0⟩ <;> (rw [hdw] at h0; cases h0)
        rcases h0 with h0 | ⟨ob, h0⟩
        · exact .inl (kp ne h0)
        · exact .inr ⟨ob, kp ne h0⟩
      generalize hG4 : upd H3 dw (.frz od (.dK (wKv (wayN rs i)))) = G4 at *
      refine ⟨_, rfl, dw, od, rfl, .inl ⟨wKv (wayN rs i), gd, fun D hD => ?_⟩⟩
      have D3 : H3 D = none := by
        rw [← hG4] at hD
        exact NdefX.upd_none hD
      refine lc_it (walk_keys (d := dw) (o := od) (kvs := wKv (wayN rs i))) (KInv (fun p : Nat × Nat => es.getD p.1 false) (fun p => natV p.2) (wayN rs i) G4 D) (kstart hD) (fun j H' _ p => p.1 _ _ gd) ?_ ?_
      · rintro j z H5 H6 hj p5 ⟨rfl, key, vv, hkv, rfl⟩
        unfold wKv at hkv
        rw [List.getElem?_map] at hkv
        obtain ⟨p, hp, e⟩ := Option.map_eq_some_iff.mp hkv
        cases e
        have pm := List.mem_of_getElem? hp
        have pl := klt p.1 (List.mem_map_of_mem pm)
        have pe5 : p.1 < es.length := by rw [el]; exact pl
        refine ⟨rfl, _, rfl, _, rfl, pe, _, (p.1 : Int), V.bl (es.getD p.1 false), rfl, rfl, .inl (same_rd p5.1 kpe), atI_nat (by rw [List.getElem?_map, getD_at pe5, List.getElem?_eq_getElem pe5]; rfl), _, rfl, ?_⟩
        cases hb : es.getD p.1 false with
        | true =>
          have dgw : DGet H6 dw (.int (p.1 : Int)) (some (.int (p.2 : Int))) := by
            refine .inl ⟨wKv (wayN rs i), .inl (p.1 : Int), .inr ⟨od, p5.1 _ _ gd⟩, rfl, ?_⟩
            rw [wKv_val, if_pos (List.mem_map_of_mem pm), vl_at nd pm]
          exact ⟨_, rfl, _, rfl, dw, _, rfl, dgw, kyes (t := fun p : Nat × Nat => es.getD p.1 false) (f := fun p => natV p.2) (small9 (by omega)) hD hp hb p5 (Same.refl _)⟩
        | false => exact kno (t := fun p : Nat × Nat => es.getD p.1 false) (f := fun p => natV p.2) hp hb p5 (Same.refl _)
      · rintro H5 p5
        obtain ⟨s5, hl5⟩ := kend lw p5
        have nDw : D ≠ dw := fun z => by rw [z, gd] at hD; cases hD
        refine ⟨s5 _ _ gd, ?_⟩
        have back : Same H3 (upd H5 dw (.dK (wKv (wayN rs i)))) := fun b o e => by
          by_cases z : b = dw
          · rw [z, upd_same, ← hdw, ← e, z]
          · rw [upd_ne z]
            exact s5 _ _ (kp z e)
        have hl6 : (upd H5 dw (.dK (wKv (wayN rs i)))) D = some (.lst ((((wayN rs i).filter fun p : Nat × Nat => es.getD p.1 false).map fun p => (p.2 : Int)).map V.int)) := by
          rw [upd_ne nDw, hl5, List.map_map]
          rfl
        generalize upd H5 dw (.dK (wKv (wayN rs i))) = G6 at *
        refine ⟨D, _, rfl, SqL.of hl6, ?_⟩
        have es1 : (((wayN rs i).filter fun p : Nat × Nat => es.getD p.1 false).map fun p => (p.2 : Int)).sum = ((cntP L (fun w => acc rs es w 0) i : Nat) : Int) := by
          rw [← way_cnt M.g i]
          unfold sumW
          exact fil_sum es _
        rw [es1]
        have hn6 := back _ _ hn3
        have hd6 := back _ _ hdw
        refine ⟨np, _, _, rfl, rfl, hn6, small9 (by rw [List.length_map, List.length_range]; omega), ?_⟩
        have sm6 := sm.trans back
        have w7 : ∀ {b : Addr} {o : HO}, b ≠ np → G6 b = some o → (upd G6 np (.lst (((List.range i).map fun k => natV (cntP L (fun w => acc rs es w 0) k)) ++ [V.int ((cntP L (fun w => acc rs es w 0) i : Nat) : Int)]))) b = some o := fun nb e => by rw [upd_ne nb]; exact e
        have sm7 : Same H (upd G6 np (.lst (((List.range i).map fun k => natV (cntP L (fun w => acc rs es w 0) k)) ++ [V.int ((cntP L (fun w => acc rs es w 0) i : Nat) : Int)]))) := fun b o e => w7 (ne_of_none e npH) (sm6 _ _ e)
        have hd7 := w7 nwn.symm hd6
        have hn7 : (upd G6 np (.lst (((List.range i).map fun k => natV (cntP L (fun w => acc rs es w 0) k)) ++ [V.int ((cntP L (fun w => acc rs es w 0) i : Nat) : Int)]))) np = some (.lst ((List.range (i + 1)).map fun k => natV (cntP L (fun w => acc rs es w 0) k))) := by
          rw [upd_same, List.range_succ, List.map_append]
          rfl
        generalize upd G6 np (.lst (((List.range i).map fun k => natV (cntP L (fun w => acc rs es w 0) k)) ++ [V.int ((cntP L (fun w => acc rs es w 0) i : Nat) : Int)])) = G7 at *
        exact ⟨_, rfl, _, rfl, L, rs, true, true, pr, dw, rvs, wayN rs i, rfl, M.g, (MM.same sm7).ga, hd7, nd, klt, fun H8 p s8 p0 hp => ⟨⟨p, _, _, rfl, hp⟩, sm7.trans s8, s8 _ _ hn7⟩⟩
    · rintro σ H3 ⟨⟨dw, y2, y7, rfl, hdw⟩, sm, hn3⟩
      rw [Int.toNat_natCast] at hn3
      exact ⟨_, rfl, k H3 np sm npH nps hn3⟩
end
section
variable {P : Program} {w : World} {K : PySem.W.Frag} {mg : Str → Option Value} {base : Heap}
theorem scCount : FnScope ["machine", "length"] ["machine", "length"] (defScope sCount) := ⟨rfl, rfl, rfl, by decide +kernel, rfl, by decide +kernel, by decide +kernel⟩
def spCount (K : PySem.W.Frag) : Sp := fun vs H Q _ => ∃ (L n : Nat) (rs : Rows) (es : List Bool) (x : V) (B : Addr → Prop), vs = [x, .int (n : Int)] ∧ Dt B K H x (machDt L rs es) ∧ MOk L rs es ∧ n < 1000 ∧
  ∀ (H' : Hp), Same H H' → Q (.int ((cntP L (fun w => acc rs es w 0) n : Nat) : Int)) H'
theorem ok_count {f fCN : Addr} {fd fdCN : FuncData} (F : Fun K "count" "count" sCount f fd)
    (CN : FnOk P w K mg base CX0 2 fCN fdCN ["machine", "many"] (spCounts K)) (FCN : Fun K "counts" "counts" sCounts fCN fdCN) (bCN : Binds K fdCN ["machine", "many"] []) (gCN : mg "counts" = some (.ref fCN)) (T : Mg mg) : FnOk P w K mg base CX0 3 f fd ["machine", "length"] (spCount K) := by
  refine F.ok scCount (fun vs H Q E h => ?_) (fun cdv A outer s H vs Q E hr h => ?_)
  · obtain ⟨L, n, rs, es, x, B, rfl, _⟩ := h
    rfl
  · obtain ⟨L, n, rs, es, x, B, rfl, hx, M, n9, k⟩ := h
    refine ⟨_, (pss_one (ps_ret (pe_ix (r := rIxL K) ix_list (pe_call CN (hr.mono (by decide)) (by rfl) gCN FCN.kp bCN .nil pass0 (pa_cons (pv 0) (pa_cons (pe_op op_add (pv 1) pe_int) pa_nil))) (pv 1) (fun _ _ => rfl)))), ?_⟩
    refine ⟨_, rfl, _, rfl, _, _, rfl, rfl, L, n + 1, rs, es, x, B, congrArg (fun z => [x, V.int z]) (by rw [Int.natCast_add]; rfl), hx, M, by omega, fun H1 p s1 _ _ hp => ?_⟩
    refine ⟨_, rfl, p, _, (n : Int), _, rfl, rfl, SqL.of hp, atI_nat (by rw [List.getElem?_map, List.getElem?_range (Nat.lt_succ_self n)]; rfl), k H1 s1⟩
end
/-! ### useful; size of the machine of no words -/
section
variable {P : Program} {w : World} {K : PySem.W.Frag} {mg : Str → Option Value} {base : Heap}
theorem scUseful : FnScope ["rows", "ends", "order", "before", "state"] ["rows", "ends"] (defScope sUseful) := ⟨rfl, rfl, rfl, by decide +kernel, rfl, by decide +kernel, by decide +kernel⟩
def spUseful : Sp := fun vs H Q _ => ∃ (L : Nat) (rs : Rows) (es : List Bool) (t u z : Bool) (pr pe : Addr) (rvs : List V), vs = [.ref pr, .ref pe] ∧ GOk L rs ∧ es.length = rs.length ∧ GA H L rs t u pr rvs ∧ Sq z H pe (es.map V.bl) ∧
  ∀ (H' : Hp) (ld : Addr) (Mk : List Nat), Same H H' → H ld = none → H' ld = some (.lst (knB rs.length Mk)) → (∀ s, Reach rs s → (s ∈ Mk ↔ Live rs es s)) → Q (.ref ld) H'
theorem ok_useful {f fRE fSO fLD : Addr} {fd fdRE fdSO fdLD : FuncData} (F : Fun K "useful" "useful" sUseful f fd)
    (RE : FnOk P w K mg base CX0 1 fRE fdRE ["rows"] spReached) (FRE : Fun K "reached" "reached" sReached fRE fdRE) (bRE : Binds K fdRE ["rows"] []) (gRE : mg "reached" = some (.ref fRE))
    (SO : FnOk P w K mg base CX0 1 fSO fdSO ["letters", "rows", "order"] spSources) (FSO : Fun K "sources" "sources" sSources fSO fdSO) (bSO : Binds K fdSO ["letters", "rows", "order"] []) (gSO : mg "sources" = some (.ref fSO))
    (LD : FnOk P w K mg base CX0 1 fLD fdLD ["before", "goals", "many"] spLeading) (FLD : Fun K "leading" "leading" sLeading fLD fdLD) (bLD : Binds K fdLD ["before", "goals", "many"] []) (gLD : mg "leading" = some (.ref fLD)) (T : Mg mg) : FnOk P w K mg base CX0 2 f fd ["rows", "ends"] spUseful := by
  refine F.ok scUseful (fun vs H Q E h => ?_) (fun cdv A outer s H vs Q E hr h => ?_)
  · obtain ⟨L, rs, es, kt, ku, kz, pr, pe, rvs, rfl, _⟩ := h
    rfl
  · obtain ⟨L, rs, es, kt, ku, kz, pr, pe, rvs, rfl, M, esl, MM, he, k⟩ := h
    have l4 := M.lN
    have l1 := M.l1
    refine ⟨_, (pss_cons (ps_set (i := 2) scUseful.nd rfl (.inl rfl) (pe_call RE (hr.mono (by decide)) (by rfl) gRE FRE.kp bRE .nil pass0 (pa_cons (pv 0) pa_nil)))
      (pss_cons (ps_set (i := 3) scUseful.nd rfl (.inl rfl) (pe_call SO (hr.mono (by decide)) (by rfl) gSO FSO.kp bSO .nil pass0 (pa_cons (pe_callB (r := rLen K) call_len_seq (by rfl) T.len PySem.boot_len (pa_cons (pe_ix (r := rIxQ) ix_any (pv 0) pe_int (fun _ _ => rfl)) pa_nil)) (pa_cons (pv 0) (pa_cons (pv 2) pa_nil)))))
      (pss_one (ps_ret (pe_call LD (hr.mono (by decide)) (by rfl) gLD FLD.kp bLD .nil pass0 (pa_cons (pv 3) (pa_cons (pe_lc (own := [("state", 4)]) (g := gName 4) rfl scUseful.nd (pi_list (pv 2)) (blkOk_by (N := ["rows", "ends", "order", "before", "state"]) (sc := defScope sUseful) (by decide +kernel)) (fun _ _ _ _ _ => pg_name (i := 4) scUseful.nd rfl (Or.inl rfl)) (fun _ _ _ _ _ => pts_one (pt_val (pe_ix (r := rIxQ) ix_any (pv 1) (pv 4) (fun _ _ => rfl)))) (fun _ _ _ _ _ => (pv 4))) (pa_cons (pe_callB (r := rLen K) call_len_seq (by rfl) T.len PySem.boot_len (pa_cons (pv 0) pa_nil)) pa_nil)))))))), ?_⟩
    refine ⟨_, rfl, L, rs, kt, ku, pr, rvs, rfl, M, MM, fun H1 od ord s1 od0 hod O => ?_⟩
    have MM1 := MM.same s1
    obtain ⟨row0, hrow0⟩ : ∃ row0, rs[0]? = some row0 := ⟨_, List.getElem?_eq_getElem (by omega)⟩
    have lrow0 := M.row row0 (List.mem_of_getElem? hrow0)
    obtain ⟨q0, hq1, hq2⟩ := MM1.row 0 row0 hrow0
    refine ⟨_, rfl, kt, pr, rvs, 0, _, rfl, rfl, MM1.hr, atI_nat (j := 0) hq1, q0, _, rfl, hq2.any, _, rfl, _, rfl, L, rs, kt, ku, pr, od, rvs, ord, congrArg (fun q : Nat => [V.int (q : Int), V.ref pr, V.ref od]) (show (row0.map oV).length = L by rw [List.length_map, lrow0]), M, MM1, hod, O.lt, by have := O.len; omega, fun H2 bf ws cs s2 fBA BB => ?_⟩
    have hod2 := s2 _ _ hod
    have MM2 := MM1.same s2
    have ol := O.len
    have onx : ∀ c t s, s ∈ (ord.filter fun s => decide (nx rs s c = some t)) ↔ (s ∈ ord ∧ nx rs s c = some t) := fun c t s => by
      rw [List.mem_filter, decide_eq_true_eq]
    refine ⟨_, rfl, _, rfl, od, rfl, ⟨_, SqL.of hod2⟩, fun D hD => ?_⟩
    refine lc_list (K := K) (a := od) (xs := ord.map natV) (KInv (fun s : Nat => es.getD s false) natV ord H2 D) (kstart hD) (fun i H' _ q => SqL.of (q.1 _ _ hod2)) ?_ ?_
    · rintro i x H3 hx p1
      obtain ⟨u, hu, rfl⟩ := natV_of hx
      have hun := O.lt u (List.mem_of_getElem? hu)
      have hue : u < es.length := by rw [esl]; exact hun
      refine ⟨rfl, _, rfl, _, rfl, kz, pe, _, (u : Int), V.bl (es.getD u false), rfl, rfl, he.same (s1.trans (s2.trans p1.1)), atI_nat (by rw [List.getElem?_map, getD_at hue, List.getElem?_eq_getElem hue]; rfl), _, rfl, ?_⟩
      cases hb : es.getD u false with
      | true => exact ⟨_, rfl, kyes (t := fun s : Nat => es.getD s false) (small9 (by omega)) hD hu hb p1 (Same.refl _)⟩
      | false => exact kno (t := fun s : Nat => es.getD s false) hu hb p1 (Same.refl _)
    · rintro H3 p1
      obtain ⟨s3, hl3⟩ := kend (List.length_map _) p1
      have MM3 := MM2.same s3
      refine ⟨_, rfl, pr, rvs, rfl, MM3.hr.any, ?_⟩
      refine ⟨bf, D, ws, cs, L, rs.length, _, ord.filter (fun s => es.getD s false), Live rs es, congrArg (fun q : Nat => [V.ref bf, V.ref D, V.int (q : Int)]) MM.hl, BB.same s3, hl3, l1, l4, O.nd.filter _, fun s hs => ?_, fun c t s hc ht hs => ?_, fun H4 ld Mk s4 ld0 hld LdM => ?_⟩
      · obtain ⟨h1, h2⟩ := List.mem_filter.mp hs
        exact ⟨O.lt s h1, live_end h2⟩
      · obtain ⟨h1, h2⟩ := (onx c t s).mp hs
        exact ⟨O.lt s h1, fun q => live_on h2 q⟩
      have lvM := ld_live M.row M.tgt O.mem onx LdM fun s q => q
      have s14 := ((s1.trans s2).trans s3).trans s4
      exact k H4 ld Mk s14 (sfree ((s1.trans s2).trans s3) ld0) hld lvM
end
section
variable {P : Program} {w : World} {K : PySem.W.Frag} {mg : Str → Option Value} {base : Heap}
theorem scSize : FnScope ["machine", "_", "rows", "ends", "leads", "clean", "item", "row", "ways", "number", "state"] ["machine"] (defScope sSize) := ⟨rfl, rfl, rfl, by decide +kernel, rfl, by decide +kernel, by decide +kernel⟩
def spSize0 (K : PySem.W.Frag) : Sp := fun vs H Q _ => ∃ (L : Nat) (x : V) (B : Addr → Prop), vs = [x] ∧ 1 ≤ L ∧ L ≤ 3 ∧ Dt B K H x (machDt L [List.replicate L none] [false]) ∧
  ∀ (H' : Hp), Same H H' → Q (.int 0) H'
theorem ok_size {f fUS fON : Addr} {fd fdUS fdON : FuncData} (F : Fun K "size" "size" sSize f fd)
    (US : FnOk P w K mg base CX0 2 fUS fdUS ["rows", "ends"] spUseful) (FUS : Fun K "useful" "useful" sUseful fUS fdUS) (bUS : Binds K fdUS ["rows", "ends"] []) (gUS : mg "useful" = some (.ref fUS))
    (ON : FnOk P w K mg base CX0 1 fON fdON ["rows", "ways"] spOnward) (FON : Fun K "onward" "onward" sOnward fON fdON) (bON : Binds K fdON ["rows", "ways"] []) (gON : mg "onward" = some (.ref fON)) (T : Mg mg) (mSum : mg "sum" = none) : FnOk P w K mg base CX0 3 f fd ["machine"] (spSize0 K) := by
  refine F.ok scSize (fun vs H Q E h => ?_) (fun cdv A outer s H vs Q E hr h => ?_)
  · obtain ⟨L, x, B, rfl, _⟩ := h
    rfl
  · obtain ⟨L, x, B, rfl, L1, L3, hx, k⟩ := h
    have hu1 := hu_of hr
    refine ⟨_, (pss_cons (ps_asg (pv 0) (pg_tup rfl (pgs_cons (pg_name (i := 1) scSize.nd rfl (.inl rfl)) (pgs_cons (pg_name (i := 2) scSize.nd rfl (.inl rfl)) (pgs_cons (pg_name (i := 3) scSize.nd rfl (.inr rfl)) pgs_nil)))))
      (pss_cons (ps_set (i := 4) scSize.nd rfl (.inr rfl) (pe_call US (hr.mono (by decide)) (by rfl) gUS FUS.kp bUS .nil pass0 (pa_cons (pv 2) (pa_cons (pv 3) pa_nil))))
      (pss_cons (ps_setLc (i := 5) (own := [("row", 7)]) (g := gName 7) (tt := tYes) rfl scSize.nd rfl rfl (sw_true rfl rfl rfl (by decide +kernel)) (pi_tup (pv 2)) (blkOk_by (N := ["machine", "_", "rows", "ends", "leads", "clean", "item", "row", "ways", "number", "state"]) (sc := defScope sSize) (by decide +kernel)) (fun _ _ _ _ _ => pg_name (i := 7) scSize.nd rfl (Or.inl rfl)) (fun _ _ _ _ _ => pts_nil) (fun _ _ _ _ _ => (pe_lc (wi := iTup K _) (own := [("item", 6)]) (g := gName 6) (tt := tYes) rfl scSize.nd (pi_tup (pv 7)) (blkOk_by (by kernel_rfl)) (fun _ _ _ _ _ => pg_name (i := 6) scSize.nd rfl (Or.inl rfl)) (fun _ _ _ _ _ => pts_nil) (fun _ _ _ _ _ => (pe_ifExp (PW.pt (pw_and (pt_cmp (pc_notN (pv 6))) (pw_and1 (pt_val (pe_ix (r := rIxL K) ix_list (pv 4) (pv 6) (fun _ _ => rfl)))))) (pv 6) pe_non)))))
      (pss_cons (ps_set (i := 8) scSize.nd rfl (.inr rfl) (pe_ifExp (pt_val (pe_ix (r := rIxL K) ix_list (pv 4) pe_int (fun _ _ => rfl))) (pe_disp (pps_cons pe_int pe_int pps_nil) (by rfl) (by rfl) (fun z => by cases z) (by decide)) pe_dnewK))
      (pss_cons (ps_set (i := 9) scSize.nd rfl (.inl rfl) pe_int)
      (pss_cons (ps_for PassesOwn.never rfl (pi_tup (pv 2)) (pg_name (i := 1) scSize.nd rfl (.inl rfl)) (pss_cons (ps_aug (i := 9) scSize.nd rfl (.inl rfl) (pe_callB (r := rSum K) (cr_sum rfl) (by rfl) mSum (by decide +kernel) (pa_cons (pe_lock (pe_lc (own := [("state", 10)]) (g := gName 10) rfl scSize.nd (pi_keys (pv 8)) (blkOk_by (N := ["machine", "_", "rows", "ends", "leads", "clean", "item", "row", "ways", "number", "state"]) (sc := defScope sSize) (by decide +kernel)) (fun _ _ _ _ _ => pg_name (i := 10) scSize.nd rfl (Or.inl rfl)) (fun _ _ _ _ _ => pts_one (pt_val (pe_ix (r := rIxT K) ix_tup (pv 3) (pv 10) (fun _ _ => rfl)))) (fun _ _ _ _ _ => pe_dget hu1 (pv 8) (pv 10) (fun _ _ => rfl)))) pa_nil)) ip_add)
      (pss_one (ps_set (i := 8) scSize.nd rfl (.inr rfl) (pe_call ON (hr.mono (by decide)) (by rfl) gON FON.kp bON .nil pass0 (pa_cons (pv 5) (pa_cons (pv 8) pa_nil)))))))
      (pss_one (ps_ret (pe_ifExp (pt_truth (pv 8) (fun _ => rfl)) pe_non (pv 9)))))))))), ?_⟩
    have M : MOk L [List.replicate L none] [false] := ⟨Nat.le_refl _, by show 1 ≤ 400; decide, fun row hr => by rw [List.mem_singleton.mp hr, List.length_replicate], (fun row hr t ht => by
      rw [List.mem_singleton.mp hr] at ht
      cases (List.mem_replicate.mp ht).2), rfl, L1, L3⟩
    obtain ⟨m, pr, pe, rvs, rfl, _, MM⟩ := dt_mach hx
    refine ⟨_, rfl, m, _, rfl, .inl MM.hm, rfl, _, _, rfl, _, _, rfl, _, _, rfl, rfl, ?_⟩
    refine ⟨_, rfl, _, rfl, L, _, _, true, true, true, pr, pe, rvs, rfl, M.g, rfl, MM.ga, MM.he, fun H1 ld Mk s1 ld0 hld lv => ?_⟩
    have nl : 0 ∉ Mk := fun z => by
      obtain ⟨w, hw⟩ := (lv 0 .z).mp z
      cases w with
      | nil => cases hw
      | cons c w =>
        rw [acc_none] at hw
        · cases hw
        · unfold nx
          rw [List.getD_eq_getElem?_getD]
          show ((List.replicate L (none : Option Nat))[c]?).getD none = none
          by_cases h : c < L
          · rw [List.getElem?_replicate, if_pos h]
            rfl
          · rw [List.getElem?_replicate, if_neg h]
            rfl
    have MM1 := MM.same s1
    have rl : rvs.length = 1 := MM.hl
    obtain ⟨q, hq1, hq2⟩ := MM1.row 0 _ rfl
    refine ⟨_, rfl, pr, rfl, ⟨_, .inl MM1.hr⟩, fun D hD => ?_⟩
    refine lc_tup (K := K) (a := pr) (xs := rvs) (fun i H' => Same H1 H' ∧ ((i = 0 ∧ H' D = some (.lst [])) ∨ (i = 1 ∧ ∃ a, H' D = some (.lst [.ref a]) ∧ H' a = some (.lst ((List.replicate L (none : Option Nat)).map fun _ => V.non)) ∧ a ≠ D))) ⟨same_new hD, .inl ⟨rfl, upd_same⟩⟩ (fun i H' _ p => .inl (same_rd p.1 MM1.hr)) ?_ ?_
    · rintro i x H2 hxi ⟨sm2, hcase⟩
      have il := (List.getElem?_eq_some_iff.mp hxi).1
      have i0 : i = 0 := by omega
      subst i0
      rw [hq1] at hxi
      cases hxi
      have hD2 : H2 D = some (.lst []) := by
        rcases hcase with ⟨_, h⟩ | ⟨h, _⟩
        · exact h
        · cases h
      refine ⟨rfl, _, rfl, q, rfl, ⟨_, .inl (same_rd sm2 hq2)⟩, fun D2 nD2 => ?_⟩
      refine lc_tup (K := K) (a := q) (xs := (List.replicate L (none : Option Nat)).map oV) (NInv (fun _ : Option Nat => V.non) (List.replicate L none) H2 D2) (nstart nD2) (fun i H' _ p => .inl (same_rd p.1 (same_rd sm2 hq2))) ?_ ?_
      · rintro j z H3 hz p3
        rw [List.getElem?_map] at hz
        obtain ⟨o, ho, rfl⟩ := Option.map_eq_some_iff.mp hz
        have on : o = none := (List.mem_replicate.mp (List.mem_of_getElem? ho)).2
        subst on
        refine ⟨rfl, _, rfl, _, rfl, ?_⟩
        exact nturn (f := fun _ : Option Nat => V.non) (small9 (by rw [List.length_replicate]; omega)) nD2 ho p3 (Same.refl _)
      · rintro H3 p3
        obtain ⟨s3, hl3⟩ := nend (List.length_map _) p3
        have hD3 := s3 _ _ hD2
        have nDD : D2 ≠ D := fun z => by rw [z, hD2] at nD2; cases nD2
        refine ⟨_, hD3, by show 0 < sizeLine; decide, fun b o e => ?_, .inr ⟨rfl, D2, upd_same, by rw [upd_ne nDD]; exact hl3, nDD⟩⟩
        rw [upd_ne (ne_of_none e hD)]
        exact s3 _ _ (sm2 _ _ e)
    · rintro H2 ⟨sm2, hcase⟩
      rw [rl] at hcase
      obtain ⟨a, hcl, ha, _⟩ : ∃ a, H2 D = some (.lst [.ref a]) ∧ H2 a = some (.lst ((List.replicate L (none : Option Nat)).map fun _ => V.non)) ∧ a ≠ D := by
        rcases hcase with ⟨h, _⟩ | ⟨_, h⟩
        · cases h
        · exact h
      refine ⟨_, rfl, ld, _, 0, _, rfl, rfl, SqL.of (sm2 _ _ hld), atI_nat (j := 0) (knB_get (by show 0 < 1; decide)), _, rfl, ?_⟩
      rw [decide_eq_false nl]
      intro dw hdw
      have t1 := same_new (o := .dK ([] : List (Key × V))) hdw
      have hd1 : (upd H2 dw (.dK [])) dw = some (.dK (wKv [])) := upd_same
      generalize upd H2 dw (.dK []) = H3 at *
      have sm3 := sm2.trans t1
      have hcl3 := t1 _ _ hcl
      have ha3 := t1 _ _ ha
      refine ⟨_, rfl, pr, rfl, ⟨_, .inl (same_rd sm3 MM1.hr)⟩, ?_⟩
      refine for_tup (K := K) (a := pr) (xs := rvs) (fun i σ H' => (∃ (dw : Addr) (y1 y6 y7 y10 : Option V), σ = [some (.ref m), y1, some (.ref pr), some (.ref pe), some (.ref ld), some (.ref D), y6, y7, some (.ref dw), some (.int 0), y10] ∧ H' dw = some (.dK (wKv []))) ∧ Same H3 H')
        ⟨⟨dw, _, _, _, _, rfl, hd1⟩, Same.refl _⟩ (fun i σ H' _ p => .inl (same_rd (sm3.trans p.2) MM1.hr)) ?_ ?_
      · rintro i x σ H4 hxi ⟨⟨dw, y1, y6, y7, y10, rfl, hdw⟩, sm4⟩
        refine ⟨_, rfl, dw, .dK (wKv []), hdw, trivial, fun od => ?_⟩
        have gd : (upd H4 dw (.frz od (.dK (wKv [])))) dw = some (.frz od (.dK (wKv []))) := upd_same
        have kp : ∀ {b : Addr} {o : HO}, b ≠ dw → H4 b = some o → (upd H4 dw (.frz od (.dK (wKv [])))) b = some o := fun nb e => by rw [upd_ne nb]; exact e
        generalize upd H4 dw (.frz od (.dK (wKv []))) = G4 at *
        refine ⟨_, rfl, dw, od, rfl, .inl ⟨wKv [], gd, fun D3 hD3 => ?_⟩⟩
        refine lc_it (walk_keys (d := dw) (o := od) (kvs := wKv [])) (fun j H' => Same G4 H' ∧ H' D3 = some (.lst [])) ⟨same_new hD3, upd_same⟩ (fun j H' _ p => p.1 _ _ gd) (fun j z H5 H6 hj => absurd hj (Nat.not_lt_zero _)) ?_
        rintro H5 ⟨s5, hl5⟩
        have nDw : D3 ≠ dw := fun z => by rw [z, gd] at hD3; cases hD3
        refine ⟨s5 _ _ gd, ?_⟩
        have back : Same H4 (upd H5 dw (.dK (wKv []))) := fun b o e => by
          by_cases z : b = dw
          · rw [z, upd_same, ← hdw, ← e, z]
          · rw [upd_ne z]
            exact s5 _ _ (kp z e)
        have hl6 : (upd H5 dw (.dK (wKv []))) D3 = some (.lst (([] : List Int).map V.int)) := by
          rw [upd_ne nDw, hl5]
          rfl
        generalize upd H5 dw (.dK (wKv [])) = G6 at *
        refine ⟨D3, _, rfl, SqL.of hl6, ?_⟩
        have sm6 := sm4.trans back
        have ga : GA G6 L [List.replicate L none] false false D [.ref a] := by
          refine ⟨.inl (sm6 _ _ hcl3), rfl, fun j row hrow => ?_⟩
          cases j with
          | zero =>
            cases hrow
            refine ⟨a, rfl, .inl ?_⟩
            rw [sm6 _ _ ha3]
            congr 2
            refine List.map_congr_left fun o ho => ?_
            rw [(List.mem_replicate.mp ho).2]
            rfl
          | succ j => cases hrow
        refine ⟨_, _, rfl, rfl, ?_⟩
        exact ⟨_, rfl, _, rfl, L, [List.replicate L none], false, false, D, dw, [.ref a], [], rfl, M.g, ga, back _ _ hdw, List.nodup_nil, (fun k hk => absurd hk List.not_mem_nil), fun H8 p s8 p0 hp => ⟨⟨p, _, _, _, _, rfl, hp⟩, sm6.trans s8⟩⟩
      · rintro σ H4 ⟨⟨dw, y1, y6, y7, y10, rfl, hdw⟩, sm4⟩
        exact ⟨_, rfl, false, .inr (.inr ⟨_, hdw, rfl⟩), _, rfl, k _ (s1.trans (sm3.trans sm4))⟩
end
/-! ### the first word of a length -/
def tabW (rs : Rws) (es : List Bool) : Nat → Nat → Bool
  | 0, s => es.getD s false
  | k + 1, s => (rs.getD s []).any fun o => match o with
    | none => false
    | some t => tabW rs es k t
def Lx : List Nat → List Nat → Prop
  | c :: a, d :: b => c < d ∨ (c = d ∧ Lx a b)
  | _, _ => False
theorem lx_app : ∀ {a b x y : List Nat}, Lx a b → Lx (a ++ x) (b ++ y)
  | [], _, _, _, h => by cases h
  | _ :: _, [], _, _, h => by cases h
  | c :: a, d :: b, x, y, h => by
    rcases h with h | ⟨h, g⟩
    · exact .inl h
    · exact .inr ⟨h, lx_app g⟩
theorem lx_last : ∀ (a : List Nat) {c d : Nat}, c < d → Lx (a ++ [c]) (a ++ [d])
  | [], _, _, h => .inl h
  | _ :: a, _, _, h => .inr ⟨rfl, lx_last a h⟩
theorem lx_snoc : ∀ {a b : List Nat} {c d : Nat}, a.length = b.length → Lx (a ++ [c]) (b ++ [d]) → Lx a b ∨ (a = b ∧ c < d)
  | [], [], c, d, _, h => by
    rcases h with h | ⟨_, h⟩
    · exact .inr ⟨rfl, h⟩
    · cases h
  | [], _ :: _, _, _, e, _ => by cases e
  | _ :: _, [], _, _, e, _ => by cases e
  | x :: a, y :: b, c, d, e, h => by
    have e : a.length = b.length := Nat.succ.inj e
    rcases h with h | ⟨h, g⟩
    · exact .inl (.inl h)
    · rcases lx_snoc e g with z | ⟨z, w⟩
      · exact .inl (.inr ⟨h, z⟩)
      · exact .inr ⟨by rw [h, z], w⟩
theorem sl_lx : ∀ {a b : List Nat}, Sl a b → a.length = b.length → Lx a.reverse b.reverse
  | [], [], h, _ => by cases h
  | [], _ :: _, _, e => by cases e
  | _ :: _, [], _, e => by cases e
  | c :: a, d :: b, h, e => by
    have e : a.length = b.length := Nat.succ.inj e
    rw [List.reverse_cons, List.reverse_cons]
    rcases h with h | ⟨h, g⟩
    · exact lx_app (sl_lx h e)
    · rw [h]
      exact lx_last _ g
section
variable {rs : Rws} {es : List Bool} {L : Nat}
theorem tabW_iff (wide : ∀ r ∈ rs, r.length = L) : ∀ (k s : Nat), tabW rs es k s = true ↔ ∃ w, w.length = k ∧ acc rs es w s = true
  | 0, s => ⟨fun h => ⟨[], rfl, h⟩, fun ⟨w, e, h⟩ => by rw [List.length_eq_zero_iff.mp e] at h; exact h⟩
  | k + 1, s => by
    show ((rs.getD s []).any _) = true ↔ _
    rw [List.any_eq_true]
    constructor
    · rintro ⟨o, ho, h⟩
      cases o with
      | none => cases h
      | some t =>
        obtain ⟨w, e, hw⟩ := (tabW_iff wide k t).mp h
        obtain ⟨c, hc⟩ := List.mem_iff_getElem?.mp ho
        have hn : nx rs s c = some t := by
          unfold nx
          rw [List.getD_eq_getElem?_getD (i := c), hc]
          rfl
        exact ⟨c :: w, by rw [List.length_cons, e], by rw [acc_cons hn]; exact hw⟩
    · rintro ⟨w, e, h⟩
      cases w with
      | nil => cases e
      | cons c w =>
        cases hn : nx rs s c with
        | none =>
          rw [acc_none hn] at h
          cases h
        | some t =>
          rw [acc_cons hn] at h
          refine ⟨some t, ?_, (tabW_iff wide k t).mpr ⟨w, Nat.succ.inj e, h⟩⟩
          unfold nx at hn
          rw [List.getD_eq_getElem?_getD (i := c)] at hn
          cases q : (rs.getD s [])[c]? with
          | none =>
            rw [q] at hn
            cases hn
          | some o =>
            rw [q] at hn
            have hn : o = some t := hn
            rw [← hn]
            exact List.mem_of_getElem? q
/-- a beginning of j letters, the first one that can be finished -/
structure LHd (rs : Rws) (es : List Bool) (L n j : Nat) (w : List Nat) (s : Nat) : Prop where
  wl : Wl L w
  ln : w.length = j
  rn : run rs w 0 = some s
  ok : tabW rs es (n - j) s = true
  mn : ∀ v, Wl L v → v.length = n → acc rs es v 0 = true → ¬ Lx (v.take j) w
theorem lh_start {n : Nat} (h : tabW rs es n 0 = true) : LHd rs es L n 0 [] 0 := ⟨fun c hc => absurd hc List.not_mem_nil, rfl, rfl, h, fun v _ _ _ z => by cases z⟩
theorem lh_step {n j s c t : Nat} {w : List Nat} (wide : ∀ r ∈ rs, r.length = L) (h : LHd rs es L n j w s) (jn : j < n) (hc : nx rs s c = some t) (ht : tabW rs es (n - 1 - j) t = true) (mn : ∀ d t', d < c → nx rs s d = some t' → tabW rs es (n - 1 - j) t' = false) : LHd rs es L n (j + 1) (w ++ [c]) t where
  wl := fun x hx => by
    rcases List.mem_append.mp hx with hx | hx
    · exact h.wl x hx
    · rw [List.mem_singleton.mp hx]
      exact (Ver.nx_lt wide hc).2.1
  ln := by rw [List.length_append, h.ln]; rfl
  rn := by rw [run_snoc, h.rn]; exact hc
  ok := by rw [show n - (j + 1) = n - 1 - j by omega]; exact ht
  mn := fun v hv vl va z => by
    have jl : j < v.length := by omega
    have e : v.take (j + 1) = v.take j ++ [v[j]] := by rw [List.take_add_one, List.getElem?_eq_getElem jl]; rfl
    rw [e] at z
    rcases lx_snoc (by rw [List.length_take, h.ln]; omega) z with z | ⟨z1, z2⟩
    · exact h.mn v hv vl va z
    · have e2 : v = (v.take j ++ [v[j]]) ++ v.drop (j + 1) := by rw [← e, List.take_append_drop]
      obtain ⟨q, h1, h2⟩ := (acc_run v 0).mp va
      rw [e2, run_append, run_snoc, z1, h.rn] at h1
      have h1 : ((nx rs s v[j]).bind (run rs (v.drop (j + 1)))) = some q := h1
      cases hn : nx rs s v[j] with
      | none =>
        rw [hn] at h1
        cases h1
      | some t' =>
        rw [hn] at h1
        have f := mn _ t' z2 hn
        have : tabW rs es (n - 1 - j) t' = true := (tabW_iff wide _ _).mpr ⟨v.drop (j + 1), by rw [List.length_drop]; omega, (acc_run _ _).mpr ⟨q, h1, h2⟩⟩
        rw [f] at this
        cases this
/-- one step on from one head -/
def furH (rs : Rws) (L : Nat) (good : Nat → Bool) (w : List Nat) (s : Nat) : Nat → List (List Nat × Nat)
  | 0 => []
  | c + 1 => furH rs L good w s c ++ (match nx rs s c with
    | none => []
    | some t => if good t = true then [(w ++ [c], t)] else [])
theorem fur_mem {good : Nat → Bool} {w : List Nat} {s : Nat} : ∀ (n : Nat) (x : List Nat × Nat), (furH rs L good w s n)[0]? = some x → ∃ c t, c < n ∧ nx rs s c = some t ∧ good t = true ∧ x = (w ++ [c], t) ∧ ∀ d t', d < c → nx rs s d = some t' → good t' = false
  | 0, x, h => by cases h
  | n + 1, x, h => by
    unfold furH at h
    cases hf : (furH rs L good w s n)[0]? with
    | some y =>
      rw [List.getElem?_append_left (List.getElem?_eq_some_iff.mp hf).1, hf] at h
      cases h
      obtain ⟨c, t, h1, h2⟩ := fur_mem n _ hf
      exact ⟨c, t, by omega, h2⟩
    | none =>
      have e : furH rs L good w s n = [] := by
        cases q : furH rs L good w s n with
        | nil => rfl
        | cons a b =>
          rw [q] at hf
          cases hf
      rw [e, List.nil_append] at h
      have none_ : ∀ (k d t' : Nat), d < k → nx rs s d = some t' → furH rs L good w s k = [] → good t' = false := fun k d t' hd hn => by
        induction k with
        | zero => exact absurd hd (Nat.not_lt_zero _)
        | succ k ih =>
          intro q
          unfold furH at q
          obtain ⟨q1, q2⟩ := List.append_eq_nil_iff.mp q
          by_cases dk : d = k
          · subst dk
            rw [hn] at q2
            cases g : good t' with
            | false => rfl
            | true =>
              have q2 : (if good t' = true then [(w ++ [d], t')] else []) = [] := q2
              rw [if_pos g] at q2
              cases q2
          · exact ih (by omega) q1
      cases hn : nx rs s n with
      | none =>
        rw [hn] at h
        cases h
      | some t =>
        rw [hn] at h
        have h : (if good t = true then [(w ++ [n], t)] else [])[0]? = some x := h
        by_cases g : good t = true
        · rw [if_pos g] at h
          cases h
          exact ⟨n, t, Nat.lt_succ_self n, hn, g, rfl, fun d t' hd hn' => none_ n d t' hd hn' e⟩
        · rw [if_neg g] at h
          cases h
theorem fur_ne {good : Nat → Bool} {w : List Nat} {s c t : Nat} (hn : nx rs s c = some t) (g : good t = true) : ∀ n, c < n → furH rs L good w s n ≠ []
  | 0, h => absurd h (Nat.not_lt_zero _)
  | n + 1, h => fun e => by
    unfold furH at e
    obtain ⟨q1, q2⟩ := List.append_eq_nil_iff.mp e
    by_cases cn : c = n
    · subst cn
      rw [hn] at q2
      have q2 : (if good t = true then [(w ++ [c], t)] else []) = [] := q2
      rw [if_pos g] at q2
      cases q2
    · exact fur_ne hn g n (by omega) q1
theorem lh_on {n j s : Nat} {w : List Nat} (wide : ∀ r ∈ rs, r.length = L) (h : LHd rs es L n j w s) (jn : j < n) : ∃ x, (furH rs L (tabW rs es (n - 1 - j)) w s L)[0]? = some x ∧ LHd rs es L n (j + 1) x.1 x.2 := by
  have ok := h.ok
  rw [show n - j = (n - 1 - j) + 1 by omega] at ok
  obtain ⟨v, vl, va⟩ := (tabW_iff wide _ _).mp ok
  cases v with
  | nil => cases vl
  | cons c v =>
    cases hn : nx rs s c with
    | none =>
      rw [acc_none hn] at va
      cases va
    | some t =>
      rw [acc_cons hn] at va
      have g : tabW rs es (n - 1 - j) t = true := (tabW_iff wide _ _).mpr ⟨v, Nat.succ.inj vl, va⟩
      have ne := fur_ne (L := L) (w := w) hn g L (Ver.nx_lt wide hn).2.1
      obtain ⟨x, hx⟩ : ∃ x, (furH rs L (tabW rs es (n - 1 - j)) w s L)[0]? = some x := by
        cases q : furH rs L (tabW rs es (n - 1 - j)) w s L with
        | nil => exact absurd q ne
        | cons a b => exact ⟨a, rfl⟩
      obtain ⟨c', t', _, h2, h3, rfl, h5⟩ := fur_mem L x hx
      exact ⟨_, hx, lh_step wide h jn h2 h3 h5⟩
end
/-- the first word of a language is the first one of its length -/
theorem first_lx {L : Nat} {p : List Nat → Prop} {u w : List Nat} (F : First p L (some u)) (hw : Wl L w) (ln : w.length = u.length) (hp : p w.reverse) (mn : ∀ v, Wl L v → v.length = u.length → p v.reverse → ¬ Lx v w) : w = u.reverse := by
  obtain ⟨f1, f2, f3⟩ := F
  have wr : Wl L w.reverse := fun c hc => hw c (List.mem_reverse.mp hc)
  have ur : Wl L u.reverse := fun c hc => f1 c (List.mem_reverse.mp hc)
  rcases sl_tri u w.reverse with q | q | q
  · have := sl_lx q (by rw [List.length_reverse, ln])
    rw [List.reverse_reverse] at this
    exact absurd this (mn _ ur (by rw [List.length_reverse]) (by rw [List.reverse_reverse]; exact f2))
  · rw [q, List.reverse_reverse]
  · exact absurd hp (f3 _ wr q)
/-- a first word is not longer than there are lots -/
theorem first_short {L N : Nat} {p : List Nat → Bool} {u : List Nat} (F : First (fun u => p u.reverse = true) L (some u)) (C : WCls L p N) : u.length < N := by
  obtain ⟨f1, f2, f3⟩ := F
  obtain ⟨c, c1, c2⟩ := C
  rcases Nat.lt_or_ge u.length N with l | l
  · exact l
  · exfalso
    have wl : ∀ i, Wl L (u.reverse.take i) := fun i x hx => f1 x (List.mem_reverse.mp (List.mem_of_mem_take hx))
    have nn : ¬ ((List.range (N + 1)).map fun i => c (u.reverse.take i)).Nodup := fun nd => by
      have := nodup_len (n := N) nd fun x hx => by
        obtain ⟨i, _, rfl⟩ := List.mem_map.mp hx
        exact c1 _ (wl i)
      rw [List.length_map, List.length_range] at this
      omega
    refine nn ?_
    rw [List.nodup_iff_pairwise_ne, List.pairwise_map]
    refine List.Pairwise.imp_of_mem ?_ List.pairwise_lt_range
    intro i j hi hj ij e
    have jl := List.mem_range.mp hj
    have e2 := c2 _ _ (wl i) (wl j) e (u.reverse.drop j)
    rw [List.take_append_drop, show p u.reverse = true from f2] at e2
    have lw : Wl L (u.reverse.take i ++ u.reverse.drop j).reverse := fun x hx => by
      rcases List.mem_append.mp (List.mem_reverse.mp hx) with z | z
      · exact wl i x z
      · exact f1 x (List.mem_reverse.mp (List.mem_of_mem_drop z))
    refine f3 _ lw ?_ (by
      show p (u.reverse.take i ++ u.reverse.drop j).reverse.reverse = true
      rw [List.reverse_reverse]
      exact e2)
    have ll : (u.reverse.take i ++ u.reverse.drop j).reverse.length < u.length := by
      rw [List.length_reverse, List.length_append, List.length_take, List.length_drop, List.length_reverse]
      omega
    rcases sl_tri (u.reverse.take i ++ u.reverse.drop j).reverse u with q | q | q
    · exact q
    · rw [q] at ll
      exact absurd ll (Nat.lt_irrefl _)
    · have : ∀ {a b : List Nat}, Sl a b → a.length ≤ b.length := fun {a} => by
        induction a with
        | nil => exact fun _ => Nat.zero_le _
        | cons x a ih =>
          intro b h
          cases b with
          | nil => cases h
          | cons y b =>
            rcases h with h | ⟨h, _⟩
            · exact Nat.succ_le_succ (ih h)
            · rw [h]
              exact Nat.le_refl _
      exact absurd (this q) (by omega)
/-! ### reaching, further, told -/
/-- the tables for lengths below k -/
def TabAtW (H : Hp) (rs : Rws) (es : List Bool) (k : Nat) (tas : List Addr) : Prop := tas.length = k ∧ ∀ i a, tas[i]? = some a → H a = some (.lst ((List.range rs.length).map fun s => V.bl (tabW rs es i s)))
/-- a list of words with the states that they lead to -/
def HeadsAt (H : Hp) (p : Addr) (ws : List (List Nat × Nat)) : Prop := ∃ ps : List Addr, H p = some (.lst (ps.map V.ref)) ∧ ps.length = ws.length ∧ ∀ (i : Nat) (a : Addr) (x : List Nat × Nat), ps[i]? = some a → ws[i]? = some x → H a = some (.tup [.str (wS x.1), .int (x.2 : Int)])
def furO (good : Nat → Bool) (w : List Nat) (c : Nat) : Option Nat → List (List Nat × Nat)
  | none => []
  | some t => if good t = true then [(w ++ [c], t)] else []
theorem furH_on {rs : Rws} {L : Nat} {good : Nat → Bool} {w : List Nat} {s j : Nat} {o : Option Nat} (h : nx rs s j = o) : furH rs L good w s (j + 1) = furH rs L good w s j ++ furO good w j o := by
  subst h
  show furH rs L good w s j ++ _ = _
  cases nx rs s j <;> rfl
theorem wS_snoc (w : List Nat) (c : Nat) : wS w ++ (⟨#[97 + c]⟩ : Str) = wS (w ++ [c]) := by
  unfold wS mkS
  rw [List.map_append]
  show (⟨(w.map (97 + ·)).toArray ++ #[97 + c]⟩ : Str) = ⟨((w.map (97 + ·)) ++ [97 + c]).toArray⟩
  rw [show (w.map (97 + ·)).toArray ++ #[97 + c] = ((w.map (97 + ·)) ++ [97 + c]).toArray by simp]
theorem abc_atI {c : Nat} (h : c < 3) : atI ("abc" : Str).cps.toList (c : Int) = some (97 + c) := by
  have : c = 0 ∨ c = 1 ∨ c = 2 := by omega
  rcases this with rfl | rfl | rfl <;> decide +kernel

section
variable {P : Program} {w : World} {K : PySem.W.Frag} {mg : Str → Option Value} {base : Heap}
theorem scReaching : FnScope ["rows", "ends", "length", "tables", "_", "last", "item", "row"] ["rows", "ends", "length"] (defScope sReaching) := ⟨rfl, rfl, rfl, by decide +kernel, rfl, by decide +kernel, by decide +kernel⟩
def spReaching : Sp := fun vs H Q _ => ∃ (L n : Nat) (rs : Rows) (es : List Bool) (m pr pe : Addr) (rvs : List V), vs = [.ref pr, .ref pe, .int (n : Int)] ∧ MOk L rs es ∧ MA H L rs es m pr pe rvs ∧ n ≤ 1000 ∧
  ∀ (H' : Hp) (p : Addr) (tas : List Addr), Same H H' → H' p = some (.lst (tas.map V.ref)) → TabAtW H' rs es (n + 1) tas → Q (.ref p) H'
theorem ok_reaching {f : Addr} {fd : FuncData} (F : Fun K "reaching" "reaching" sReaching f fd) (T : Mg mg) : FnOk P w K mg base CX0 1 f fd ["rows", "ends", "length"] spReaching := by
  refine F.ok scReaching (fun vs H Q E h => ?_) (fun cdv A outer s H vs Q E hr h => ?_)
  · obtain ⟨L, n, rs, es, m, pr, pe, rvs, rfl, _⟩ := h
    rfl
  · obtain ⟨L, n, rs, es, m, pr, pe, rvs, rfl, M, MM, n9, k⟩ := h
    refine ⟨_, (pss_cons (ps_set (i := 3) scReaching.nd rfl (.inl rfl) (pe_lstA (pa_cons (pe_callTy (r := rListN K) call_listN (by rfl) T.list (by decide +kernel) (pa_cons (pv 1) pa_nil)) pa_nil)))
      (pss_cons (ps_for PassesOwn.never rfl (pi_range1 (by rfl) T.range (pa_cons (pv 2) pa_nil)) (pg_name (i := 4) scReaching.nd rfl (.inl rfl)) (pss_cons (ps_set (i := 5) scReaching.nd rfl (.inr rfl) (pe_ix (r := rIxL K) ix_list (pv 3) (pe_un un_neg pe_int) (fun _ _ => rfl)))
      (pss_one (ps_expr (pe_bm PySem.F.plainAttrs_list PySem.F.slot_list_append PySem.F.type_list_append mt_append (pv 3) (pa_cons (pe_lc (own := [("row", 7)]) (g := gName 7) (tt := tYes) rfl scReaching.nd (pi_tup (pv 0)) (blkOk_by (N := ["rows", "ends", "length", "tables", "_", "last", "item", "row"]) (sc := defScope sReaching) (by decide +kernel)) (fun _ _ _ _ _ => pg_name (i := 7) scReaching.nd rfl (Or.inl rfl)) (fun _ _ _ _ _ => pts_nil) (fun _ _ _ _ _ => (pe_callB (r := rAny K) (cr_any rfl) (by rfl) T.any (by decide +kernel) (pa_cons (pe_lc (wi := iTup K _) (own := [("item", 6)]) (g := gName 6) (tt := tYes) rfl scReaching.nd (pi_tup (pv 7)) (blkOk_by (by kernel_rfl)) (fun _ _ _ _ _ => pg_name (i := 6) scReaching.nd rfl (Or.inl rfl)) (fun _ _ _ _ _ => pts_nil) (fun _ _ _ _ _ => (pe_and (pe_cmp (pc_notN (pv 6))) (pe_one (pe_ix (r := rIxL K) ix_list (pv 5) (pv 6) (fun _ _ => rfl)))))) pa_nil)))) pa_nil))))))
      (pss_one (ps_ret (pv 3))))), ?_⟩
    have l4 := M.l400
    have el := M.es
    have L3 := M.L3
    refine ⟨_, rfl, pe, _, rfl, .inl MM.he, fun l1 hl1 nl1 => ⟨by show 1 ≤ sizeLine; decide, fun tp H2 s2 tp0 ntp htp => ?_⟩⟩
    have s1 := same_new (o := .lst (es.map V.bl)) hl1
    have h1 := s2 _ _ (show (upd H l1 (.lst (es.map V.bl))) l1 = some (.lst (es.map V.bl)) from upd_same)
    have tpl : l1 ≠ tp := fun z => by
      rw [← z] at tp0
      rw [upd_same] at tp0
      cases tp0
    have tpH : H tp = none := sfree s1 tp0
    have s12 := s1.trans s2
    have e0 : es.map V.bl = (List.range rs.length).map fun s => V.bl (tabW rs es 0 s) := by
      refine List.ext_getElem? fun i => ?_
      rw [List.getElem?_map, List.getElem?_map]
      by_cases hi : i < rs.length
      · rw [List.getElem?_range hi, List.getElem?_eq_getElem (by omega)]
        show _ = some (V.bl (es.getD i false))
        rw [getD_at (by omega)]
        rfl
      · rw [List.getElem?_eq_none (by omega), List.getElem?_eq_none (by rw [List.length_range]; omega)]
        rfl
    rw [e0] at h1
    generalize upd H l1 (.lst (es.map V.bl)) = G1 at *
    refine ⟨_, rfl, (n : Int), rfl, by omega, by omega, ?_⟩
    refine for_range (lo := 0) (n := (n : Int).toNat) (fun i σ H' => (∃ y4 y5 y6 y7 : Option V, σ = [some (.ref pr), some (.ref pe), some (.int (n : Int)), some (.ref tp), y4, y5, y6, y7]) ∧ Same H H' ∧ ∃ tas : List Addr, H' tp = some (.lst (tas.map V.ref)) ∧ TabAtW H' rs es (i + 1) tas ∧ ∀ a ∈ tas, a ≠ tp)
      ⟨⟨_, _, _, _, rfl⟩, s12, [l1], htp, ⟨rfl, fun i a e => ?_⟩, fun a ha => by rw [List.mem_singleton.mp ha]; exact tpl⟩ ?_ ?_
    · cases i with
      | zero => cases e; exact h1
      | succ i => cases e
    · rintro i σ H3 hi ⟨⟨y4, y5, y6, y7, rfl⟩, sm, tas, ht3, ⟨tl, ta⟩, tn⟩
      obtain ⟨la, hla⟩ : ∃ la, tas[i]? = some la := ⟨_, List.getElem?_eq_getElem (by omega)⟩
      have hl3 := ta i la hla
      have MM3 := MM.same sm
      refine ⟨_, rfl, 1, rfl, tp, _, _, V.ref la, rfl, rfl, SqL.of ht3, atI_neg1 (by rw [List.length_map, tl, List.getElem?_map, Nat.add_sub_cancel, hla]; rfl) (by rw [List.length_map]; omega), ?_⟩
      refine ⟨_, rfl, .inl ⟨rfl, _, SqL.of ht3⟩, _, rfl, pr, rfl, ⟨_, .inl MM3.hr⟩, fun D hD => ?_⟩
      have nDt : D ≠ tp := fun z => by rw [z, ht3] at hD; cases hD
      refine lc_tup (K := K) (a := pr) (xs := rvs) (fun j H' => Same H3 H' ∧ H' D = some (.lst ((List.range j).map fun s => V.bl (tabW rs es (i + 1) s)))) ⟨same_new hD, upd_same⟩ (fun j H' _ p => .inl (same_rd p.1 MM3.hr)) ?_ ?_
      · rintro j x H4 hx ⟨s4, hl4⟩
        have jl : j < rs.length := by
          have := (List.getElem?_eq_some_iff.mp hx).1
          rw [MM.hl] at this
          exact this
        have hrow : rs[j]? = some rs[j] := List.getElem?_eq_getElem jl
        have hmr := List.getElem_mem jl
        have gD : rs.getD j [] = rs[j] := getD_at jl
        have hrl := M.row _ hmr
        generalize rs[j] = row at *
        obtain ⟨q, hq1, hq2⟩ := MM3.row j row hrow
        rw [hx] at hq1
        cases hq1
        have hq4 := same_rd s4 hq2
        refine ⟨rfl, _, rfl, q, rfl, ⟨_, .inl hq4⟩, fun D2 nD2 => ?_⟩
        refine lc_tup (K := K) (a := q) (xs := row.map oV) (NInv (fun o : Option Nat => V.bl (match o with | none => false | some t => tabW rs es i t)) row H4 D2) (nstart nD2) (fun c H' _ p => .inl (same_rd p.1 hq4)) ?_ ?_
        · rintro c z H5 hz p5
          rw [List.getElem?_map] at hz
          obtain ⟨o, ho, rfl⟩ := Option.map_eq_some_iff.mp hz
          refine ⟨rfl, _, rfl, _, rfl, ?_⟩
          cases o with
          | none => exact nturn (f := fun o : Option Nat => V.bl (match o with | none => false | some t => tabW rs es i t)) (small9 (by omega)) nD2 ho p5 (Same.refl _)
          | some t =>
            have tt := M.tgt row hmr t (List.mem_of_getElem? ho)
            refine ⟨_, rfl, _, rfl, la, _, (t : Int), V.bl (tabW rs es i t), rfl, rfl, SqL.of (p5.1 _ _ (s4 _ _ hl3)), atI_nat (by rw [List.getElem?_map, List.getElem?_range tt]; rfl), ?_⟩
            exact nturn (f := fun o : Option Nat => V.bl (match o with | none => false | some t => tabW rs es i t)) (small9 (by omega)) nD2 ho p5 (Same.refl _)
        · rintro H5 p5
          obtain ⟨s5, hl5⟩ := nend (List.length_map _) p5
          have eb : row.map (fun o : Option Nat => V.bl (match o with | none => false | some t => tabW rs es i t)) = (row.map fun o : Option Nat => (match o with | none => false | some t => tabW rs es i t)).map V.bl := by
            rw [List.map_map]
            rfl
          rw [eb] at hl5
          have ev : ((row.map fun o : Option Nat => (match o with | none => false | some t => tabW rs es i t)).any id) = tabW rs es (i + 1) j := by
            show _ = (rs.getD j []).any _
            rw [gD, List.any_map]
            rfl
          refine ⟨D2, _, rfl, SqL.of hl5, ?_⟩
          rw [ev]
          refine ⟨_, s5 _ _ hl4, small9 (by rw [List.length_map, List.length_range]; omega), fun b o e => ?_, ?_⟩
          · rw [upd_ne (ne_of_none e hD)]
            exact s5 _ _ (s4 _ _ e)
          · rw [upd_same, List.range_succ, List.map_append]
            rfl
      · rintro H4 ⟨s4, hl4⟩
        rw [MM.hl] at hl4
        have ht4 := s4 _ _ ht3
        refine ⟨tp, _, _, rfl, rfl, ht4, small9 (by rw [List.length_map]; omega), ?_⟩
        have w5 : ∀ {b : Addr} {o : HO}, b ≠ tp → H4 b = some o → (upd H4 tp (.lst (tas.map V.ref ++ [V.ref D]))) b = some o := fun nb e => by rw [upd_ne nb]; exact e
        refine ⟨⟨_, _, _, _, rfl⟩, fun b o e => w5 (ne_of_none e tpH) (s4 _ _ (sm _ _ e)), tas ++ [D], by rw [upd_same, List.map_append]; rfl, ⟨by rw [List.length_append, tl]; rfl, fun k' a e => ?_⟩, fun a ha => ?_⟩
        · rcases Nat.lt_or_ge k' tas.length with q | q
          · rw [List.getElem?_append_left q] at e
            exact w5 (tn a (List.mem_of_getElem? e)) (s4 _ _ (ta k' a e))
          · have l2 := (List.getElem?_eq_some_iff.mp e).1
            rw [List.length_append, List.length_singleton] at l2
            have ek : k' = tas.length := by omega
            subst ek
            rw [List.getElem?_append_right (Nat.le_refl _), Nat.sub_self] at e
            cases e
            rw [tl]
            exact w5 nDt hl4
        · rcases List.mem_append.mp ha with ha | ha
          · exact tn a ha
          · rw [List.mem_singleton.mp ha]
            exact nDt
    · rintro σ H3 ⟨⟨y4, y5, y6, y7, rfl⟩, sm, tas, ht3, tt, tn⟩
      rw [Int.toNat_natCast] at tt
      exact ⟨_, rfl, k H3 tp tas sm ht3 tt⟩
end
section
variable {P : Program} {w : World} {K : PySem.W.Frag} {mg : Str → Option Value} {base : Heap}
theorem scFurther : FnScope ["rows", "heads", "good", "longer", "word", "state", "letter", "target"] ["rows", "heads", "good"] (defScope sFurther) := ⟨rfl, rfl, rfl, by decide +kernel, rfl, by decide +kernel, by decide +kernel⟩
def spFurther : Sp := fun vs H Q _ => ∃ (L : Nat) (rs : Rows) (es : List Bool) (m pr pe hl gl : Addr) (rvs : List V) (ws : List (List Nat × Nat)) (good : Nat → Bool), vs = [.ref pr, .ref hl, .ref gl] ∧ MOk L rs es ∧ MA H L rs es m pr pe rvs ∧ HeadsAt H hl ws ∧ ws.length ≤ 1 ∧ (∀ x ∈ ws, x.2 < rs.length ∧ x.1.length ≤ 1000) ∧ H gl = some (.lst ((List.range rs.length).map fun s => V.bl (good s))) ∧
  ∀ (H' : Hp) (p : Addr), Same H H' → HeadsAt H' p (ws.flatMap fun x => furH rs L good x.1 x.2 L) → Q (.ref p) H'
theorem ok_further {f : Addr} {fd : FuncData} (F : Fun K "further" "further" sFurther f fd) (T : Mg mg) : FnOk P w K mg base CX0 1 f fd ["rows", "heads", "good"] spFurther := by
  refine F.ok scFurther (fun vs H Q E h => ?_) (fun cdv A outer s H vs Q E hr h => ?_)
  · obtain ⟨L, rs, es, m, pr, pe, hl, gl, rvs, ws, good, rfl, _⟩ := h
    rfl
  · obtain ⟨L, rs, es, m, pr, pe, hl, gl, rvs, ws, good, rfl, M, MM, hh, w1, wb, hgl, k⟩ := h
    obtain ⟨tL, mL⟩ := T.le
    refine ⟨_, (pss_cons (ps_set (i := 3) scFurther.nd rfl (.inl rfl) (pe_lstA pa_nil))
      (pss_cons (ps_for PassesOwn.never rfl (pi_list (pv 1)) (pg_tup rfl (pgs_cons (pg_name (i := 4) scFurther.nd rfl (.inl rfl)) (pgs_cons (pg_name (i := 5) scFurther.nd rfl (.inl rfl)) pgs_nil))) (pss_one (ps_for PassesOwn.never rfl (pi_enumT (by rfl) T.enum (pa_cons (pe_ix (r := rIxT K) ix_tup (pv 0) (pv 5) (fun _ _ => rfl)) pa_nil)) (pg_tup rfl (pgs_cons (pg_name (i := 6) scFurther.nd rfl (.inl rfl)) (pgs_cons (pg_name (i := 7) scFurther.nd rfl (.inl rfl)) pgs_nil))) (pss_one (ps_if (PW.pt (pw_and (pt_cmp (pc_notN (pv 7))) (pw_and1 (pt_val (pe_ix (r := rIxL K) ix_list (pv 2) (pv 7) (fun _ _ => rfl)))))) (pss_one (ps_expr (pe_bm PySem.F.plainAttrs_list PySem.F.slot_list_append PySem.F.type_list_append mt_append (pv 3) (pa_cons (pe_tup (pa_cons (pe_op op_add_str (pv 4) (pe_ix ix_str (pe_glob (v := .str "abc") (by rfl) mL ⟨_, rfl⟩) (pv 6) (fun _ _ => rfl))) (pa_cons (pv 7) pa_nil))) pa_nil)))) pss_nil)))))
      (pss_one (ps_ret (pv 3))))), ?_⟩
    have l4 := M.l400
    have L3 := M.L3
    obtain ⟨ps, hps, lps, hat⟩ := hh
    refine ⟨by show 0 ≤ sizeLine; decide, fun lp H1 s1 lp0 nlp hlp => ?_⟩
    refine ⟨_, rfl, hl, rfl, ⟨_, SqL.of (s1 _ _ hps)⟩, ?_⟩
    refine for_list (K := K) (a := hl) (xs := ps.map V.ref) (fun i σ H' => (∃ y4 y5 y6 y7 : Option V, σ = [some (.ref pr), some (.ref hl), some (.ref gl), some (.ref lp), y4, y5, y6, y7]) ∧ Same H H' ∧ HeadsAt H' lp ((ws.take i).flatMap fun x => furH rs L good x.1 x.2 L))
      ⟨⟨_, _, _, _, rfl⟩, s1, [], hlp, rfl, fun i a x e => by cases e⟩ (fun i σ H' _ p => SqL.of (p.2.1 _ _ hps)) ?_ ?_
    · rintro i x σ H2 hx ⟨⟨y4, y5, y6, y7, rfl⟩, sm, hd⟩
      rw [List.getElem?_map] at hx
      obtain ⟨a, ha, rfl⟩ := Option.map_eq_some_iff.mp hx
      have il := (List.getElem?_eq_some_iff.mp ha).1
      obtain ⟨p, hp⟩ : ∃ p, ws[i]? = some p := ⟨_, List.getElem?_eq_getElem (by omega)⟩
      have i0 : i = 0 := by omega
      subst i0
      obtain ⟨pl, p9⟩ := wb p (List.mem_of_getElem? hp)
      have hat2 := sm _ _ (hat 0 a p ha hp)
      have MM2 := MM.same sm
      have hrow : rs[p.2]? = some rs[p.2] := List.getElem?_eq_getElem pl
      have hmr := List.getElem_mem pl
      have hrl := M.row _ hmr
      have hnx : ∀ c, nx rs p.2 c = (rs[p.2]).getD c none := fun c => by
        unfold nx
        rw [getD_at pl]
      generalize rs[p.2] = row at *
      obtain ⟨q, hq1, hq2⟩ := MM.row p.2 row hrow
      have tk : (ws.take (0 + 1)).flatMap (fun x => furH rs L good x.1 x.2 L) = furH rs L good p.1 p.2 L := by
        rw [List.take_add_one, hp]
        show (([] : List (List Nat × Nat)) ++ [p]).flatMap _ = _
        rw [List.nil_append, List.flatMap_cons, List.flatMap_nil, List.append_nil]
      rw [tk]
      refine ⟨a, _, rfl, SqT.of hat2, rfl, _, _, rfl, _, _, rfl, rfl, ?_⟩
      refine ⟨_, rfl, _, rfl, pr, rvs, (p.2 : Int), _, rfl, rfl, .inl MM2.hr, atI_nat hq1, q, _, rfl, .inl (same_rd sm hq2), ?_⟩
      refine for_it (walk_enumT (K := K) (a := q) (xs := row.map oV)) (fun j σ H' => (∃ y6 y7 : Option V, σ = [some (.ref pr), some (.ref hl), some (.ref gl), some (.ref lp), some (.str (wS p.1)), some (.int (p.2 : Int)), y6, y7]) ∧ Same H H' ∧ HeadsAt H' lp (furH rs L good p.1 p.2 j) ∧ (furH rs L good p.1 p.2 j).length ≤ j)
        ⟨⟨_, _, rfl⟩, sm, hd, Nat.zero_le _⟩ (fun j σ H' _ p => .inl (same_rd p.2.1 hq2)) ?_ ?_
      · rintro j z σ H3 H4 hj ⟨⟨y6', y7', rfl⟩, sm3, hd3, ln3⟩ ⟨T1, va, vb, rfl, nT, rfl, ea, eb2⟩
        cases ea
        replace eb2 : (row.map oV)[j]? = some vb := eb2
        rw [List.getElem?_map] at eb2
        obtain ⟨o, ho, rfl⟩ := Option.map_eq_some_iff.mp eb2
        have jL : j < L := by
          have := (List.getElem?_eq_some_iff.mp ho).1
          omega
        have nxj : nx rs p.2 j = o := by rw [hnx, List.getD_eq_getElem?_getD, ho]; rfl
        have sT := same_new (o := .tup [V.int (j : Nat), oV o]) nT
        refine ⟨T1, _, rfl, SqT.of upd_same, rfl, _, _, rfl, _, _, rfl, rfl, ?_⟩
        have sm4 := sm3.trans sT
        obtain ⟨ps3, hp3, lp3, at3⟩ := hd3
        have hp4 := sT _ _ hp3
        have at4 : ∀ (i : Nat) (a : Addr) (x : List Nat × Nat), ps3[i]? = some a → (furH rs L good p.1 p.2 j)[i]? = some x → (upd H3 T1 (.tup [V.int (j : Nat), oV o])) a = some (.tup [.str (wS x.1), .int (x.2 : Int)]) := fun i a x h1 h2 => sT _ _ (at3 i a x h1 h2)
        generalize upd H3 T1 (.tup [V.int (j : Nat), oV o]) = G at *
        have fe := furH_on (L := L) (good := good) (w := p.1) nxj
        rw [fe]
        refine ⟨_, rfl, _, rfl, ?_⟩
        cases o with
        | none =>
          have f0 : furO good p.1 j none = [] := rfl
          rw [f0, List.append_nil]
          exact ⟨⟨_, _, rfl⟩, sm4, ⟨ps3, hp4, lp3, at4⟩, by omega⟩
        | some t =>
          have tt := M.tgt row hmr t (List.mem_of_getElem? ho)
          refine ⟨_, rfl, _, rfl, gl, _, (t : Int), V.bl (good t), rfl, rfl, SqL.of (sm4 _ _ hgl), atI_nat (by rw [List.getElem?_map, List.getElem?_range tt]; rfl), _, rfl, ?_⟩
          cases hg : good t with
          | false =>
            have f0 : furO good p.1 j (some t) = [] := by
              show (if good t = true then _ else _) = _
              rw [hg, if_neg Bool.false_ne_true]
            rw [f0, List.append_nil]
            exact ⟨⟨_, _, rfl⟩, sm4, ⟨ps3, hp4, lp3, at4⟩, by omega⟩
          | true =>
            have f0 : furO good p.1 j (some t) = [(p.1 ++ [j], t)] := by
              show (if good t = true then _ else _) = _
              rw [hg, if_pos rfl]
            rw [f0]
            have wl1 : (wS p.1).length = p.1.length := wS_len p.1
            refine ⟨_, rfl, .inl ⟨rfl, _, SqL.of hp4⟩, _, rfl, _, rfl, _, _, _, rfl, rfl, by show 3 ≤ sizeLine; decide, abc_atI (show j < 3 by omega), _, _, rfl, rfl, ?_, ?_⟩
            · show (wS p.1).length + 1 ≤ sizeLine
              rw [wl1]
              exact Nat.le_trans (show p.1.length + 1 ≤ 1000000 by omega) (by decide)
            rw [wS_snoc]
            refine ⟨_, rfl, by show 2 ≤ sizeLine; decide, fun q2 nq2 => ?_⟩
            have s5 := same_new (o := .tup [.str (wS (p.1 ++ [j])), oV (some t)]) nq2
            have hq5 : (upd G q2 (.tup [.str (wS (p.1 ++ [j])), oV (some t)])) q2 = some (.tup [.str (wS (p.1 ++ [j])), .int (t : Int)]) := upd_same
            have sm5 := sm4.trans s5
            have hp5 := s5 _ _ hp4
            have at5 : ∀ (i : Nat) (a : Addr) (x : List Nat × Nat), ps3[i]? = some a → (furH rs L good p.1 p.2 j)[i]? = some x → (upd G q2 (.tup [.str (wS (p.1 ++ [j])), oV (some t)])) a = some (.tup [.str (wS x.1), .int (x.2 : Int)]) := fun i a x h1 h2 => s5 _ _ (at4 i a x h1 h2)
            generalize upd G q2 (.tup [.str (wS (p.1 ++ [j])), oV (some t)]) = G5 at *
            refine ⟨lp, ps3.map V.ref, _, rfl, rfl, hp5, small9 (by rw [List.length_map, lp3]; omega), ?_⟩
            have w6 : ∀ {b : Addr} {xs : List V}, G5 b = some (.tup xs) → (upd G5 lp (.lst (ps3.map V.ref ++ [V.ref q2]))) b = some (.tup xs) := fun {b xs} e => by
              rw [upd_ne (fun z => by rw [z, hp5] at e; cases e)]
              exact e
            refine ⟨⟨_, _, rfl⟩, fun b o e => ?_, ⟨ps3 ++ [q2], by rw [upd_same, List.map_append]; rfl, by rw [List.length_append, List.length_append, lp3]; rfl, fun i a x h1 h2 => ?_⟩, by rw [List.length_append]; show _ + 1 ≤ _; omega⟩
            · rw [upd_ne (ne_of_none e lp0)]
              exact sm5 _ _ e
            · rcases Nat.lt_or_ge i ps3.length with q | q
              · rw [List.getElem?_append_left q] at h1
                rw [List.getElem?_append_left (by omega)] at h2
                exact w6 (at5 i a x h1 h2)
              · have l2 := (List.getElem?_eq_some_iff.mp h1).1
                rw [List.length_append, List.length_singleton] at l2
                have ei : i = ps3.length := by omega
                subst ei
                rw [List.getElem?_append_right (Nat.le_refl _), Nat.sub_self] at h1
                rw [lp3, List.getElem?_append_right (Nat.le_refl _), Nat.sub_self] at h2
                cases h1
                cases h2
                exact w6 hq5
      · rintro σ H3 ⟨⟨y6', y7', rfl⟩, sm3, hd3, ln3⟩
        rw [List.length_map, hrl] at hd3
        exact ⟨⟨_, _, _, _, rfl⟩, sm3, hd3⟩
    · rintro σ H2 ⟨⟨y4, y5, y6, y7, rfl⟩, sm, hd⟩
      rw [List.length_map, lps, List.take_length] at hd
      exact ⟨_, rfl, k H2 lp sm hd⟩
end
/-! ### told -/
section
variable {P : Program} {w : World} {K : PySem.W.Frag} {mg : Str → Option Value} {base : Heap}
theorem scTold : FnScope ["machine", "length", "most", "_", "rows", "ends", "tables", "heads", "left", "word"] ["machine", "length", "most"] (defScope sTold) := ⟨rfl, rfl, rfl, by decide +kernel, rfl, by decide +kernel, by decide +kernel⟩
def spTold (K : PySem.W.Frag) : Sp := fun vs H Q _ => ∃ (L n : Nat) (rs : Rows) (es : List Bool) (x : V) (B : Addr → Prop), vs = [x, .int (n : Int), .int 1] ∧ Dt B K H x (machDt L rs es) ∧ MOk L rs es ∧ n ≤ 1000 ∧ (∃ w, w.length = n ∧ acc rs es w 0 = true) ∧
  ∀ (H' : Hp) (p : Addr) (w : List Nat) (s : Nat), Same H H' → LHd rs es L n n w s → H p = none → H' p = some (.tup [.str (wS w)]) → Q (.ref p) H'
theorem ok_told {f fRG fFU : Addr} {fd fdRG fdFU : FuncData} (F : Fun K "told" "told" sTold f fd)
    (RG : FnOk P w K mg base CX0 1 fRG fdRG ["rows", "ends", "length"] spReaching) (FRG : Fun K "reaching" "reaching" sReaching fRG fdRG) (bRG : Binds K fdRG ["rows", "ends", "length"] []) (gRG : mg "reaching" = some (.ref fRG)) (FU : FnOk P w K mg base CX0 1 fFU fdFU ["rows", "heads", "good"] spFurther) (FFU : Fun K "further" "further" sFurther fFU fdFU) (bFU : Binds K fdFU ["rows", "heads", "good"] []) (gFU : mg "further" = some (.ref fFU)) (T : Mg mg) : FnOk P w K mg base CX0 2 f fd ["machine", "length", "most"] (spTold K) := by
  refine F.ok scTold (fun vs H Q E h => ?_) (fun cdv A outer s H vs Q E hr h => ?_)
  · obtain ⟨L, n, rs, es, x, B, rfl, _⟩ := h
    rfl
  · obtain ⟨L, n, rs, es, x, B, rfl, hx, M, n9, hw, k⟩ := h
    refine ⟨_, (pss_cons (ps_asg (pv 0) (pg_tup rfl (pgs_cons (pg_name (i := 3) scTold.nd rfl (.inl rfl)) (pgs_cons (pg_name (i := 4) scTold.nd rfl (.inl rfl)) (pgs_cons (pg_name (i := 5) scTold.nd rfl (.inl rfl)) pgs_nil)))))
      (pss_cons (ps_set (i := 6) scTold.nd rfl (.inl rfl) (pe_call RG (hr.mono (by decide)) (by rfl) gRG FRG.kp bRG .nil pass0 (pa_cons (pv 4) (pa_cons (pv 5) (pa_cons (pv 1) pa_nil)))))
      (pss_cons (ps_set (i := 7) scTold.nd rfl (.inl rfl) (pe_ifExp (pt_val (pe_ix (r := rIxL K) ix_list (pe_ix (r := rIxL K) ix_list (pv 6) (pv 1) (fun _ _ => rfl)) pe_int (fun _ _ => rfl))) (pe_lstA (pa_cons (pe_tup (pa_cons pe_str (pa_cons pe_int pa_nil))) pa_nil)) (pe_lstA pa_nil)))
      (pss_cons (ps_for PassesOwn.never rfl (pi_range3 (by rfl) T.range (pa_cons (pe_op op_sub (pv 1) pe_int) (pa_cons (pe_un un_neg pe_int) (pa_cons (pe_un un_neg pe_int) pa_nil)))) (pg_name (i := 8) scTold.nd rfl (.inl rfl)) (pss_one (ps_set (i := 7) scTold.nd rfl (.inl rfl) (pe_call FU (hr.mono (by decide)) (by rfl) gFU FFU.kp bFU .nil pass0 (pa_cons (pv 4) (pa_cons (pe_slice (r := rSlL K) sl_list (pv 7) po_none (po_some (pv 2))) (pa_cons (pe_ix (r := rIxL K) ix_list (pv 6) (pv 8) (fun _ _ => rfl)) pa_nil)))))))
      (pss_one (ps_ret (pe_callTy (r := rTup K) call_tuple_of (by rfl) T.tuple PyProof.Rows.boot_tuple (pa_cons (pe_lc (own := [("word", 9), ("_", 3)]) (g := gTup K 2 (gCons (gName 9) (gCons (gName 3) gNil))) (tt := tYes) rfl scTold.nd (pi_list (pe_slice (r := rSlL K) sl_list (pv 7) po_none (po_some (pv 2)))) (blkOk_by (N := ["machine", "length", "most", "_", "rows", "ends", "tables", "heads", "left", "word"]) (sc := defScope sTold) (by decide +kernel)) (fun _ _ _ _ _ => pg_tup rfl (pgs_cons (pg_name (i := 9) scTold.nd rfl (Or.inl rfl)) (pgs_cons (pg_name (i := 3) scTold.nd rfl (Or.inl rfl)) pgs_nil))) (fun _ _ _ _ _ => pts_nil) (fun _ _ _ _ _ => (pv 9))) pa_nil)))))))), ?_⟩
    obtain ⟨m, pr, pe, rvs, rfl, _, MM⟩ := dt_mach hx
    have el := M.es
    refine ⟨_, rfl, m, _, rfl, .inl MM.hm, rfl, _, _, rfl, _, _, rfl, _, _, rfl, rfl, ?_⟩
    refine ⟨_, rfl, _, rfl, _, rfl, L, n, rs, es, m, pr, pe, rvs, rfl, M, MM, n9, fun H1 tp tas s1 htp ⟨tl, ta⟩ => ?_⟩
    obtain ⟨ln, hln⟩ : ∃ ln, tas[n]? = some ln := ⟨_, List.getElem?_eq_getElem (by omega)⟩
    have hl1 := ta n ln hln
    have ok0 : tabW rs es n 0 = true := (tabW_iff M.row n 0).mpr hw
    refine ⟨_, rfl, _, rfl, tp, _, (n : Int), .ref ln, rfl, rfl, SqL.of htp, atI_nat (by rw [List.getElem?_map, hln]; rfl), ln, _, 0, V.bl (tabW rs es n 0), rfl, rfl, SqL.of hl1, atI_nat (j := 0) (by rw [List.getElem?_map, List.getElem?_range (by have := M.l1; omega)]; rfl), ?_⟩
    rw [ok0]
    refine ⟨true, rfl, by show 2 ≤ sizeLine; decide, fun q0 nq0 => ?_⟩
    have s2 := same_new (o := .tup [.str "", .int 0]) nq0
    have hq0 : (upd H1 q0 (.tup [.str "", .int 0])) q0 = some (.tup [.str (wS []), .int ((0 : Nat) : Int)]) := upd_same
    have ht2 := s2 _ _ htp
    have s12 := s1.trans s2
    generalize upd H1 q0 (.tup [.str "", .int 0]) = G1 at *
    refine ⟨by show 1 ≤ sizeLine; decide, fun hp H2 s3 hp0 nhp hhp => ?_⟩
    have h03 := s3 _ _ hq0
    have ht3 := s3 _ _ ht2
    have s13 := s12.trans s3
    have c1 : ∀ xs : List V, cutV xs none (some 1) = xs.take 1 := fun xs => by
      cases xs with
      | nil => rfl
      | cons x xs =>
        show (List.drop 0 (x :: xs)).take (min (1 : Nat) (xs.length + 1) - 0) = _
        rw [Nat.min_eq_left (by omega)]
        rfl
    refine ⟨_, rfl, _, _, rfl, rfl, _, rfl, _, rfl, (n : Int) - 1, -1, -1, ((n : Int) - 1 - (-1)).toNat, rfl, RgC.neg (by omega) (by omega) (by omega) (by omega), ?_⟩
    rw [show ((n : Int) - 1 - (-1)).toNat = n by omega]
    refine for_rangeC (fun i σ H' => (∃ (h : Addr) (y3 y8 y9 : Option V) (ws : List (List Nat × Nat)) (x : List Nat × Nat), σ = [some (.ref m), some (.int (n : Int)), some (.int 1), y3, some (.ref pr), some (.ref pe), some (.ref tp), some (.ref h), y8, y9] ∧ HeadsAt H' h ws ∧ ws[0]? = some x ∧ LHd rs es L n i x.1 x.2) ∧ Same H1 H')
      ⟨⟨hp, _, _, _, [([], 0)], ([], 0), rfl, ⟨[q0], hhp, rfl, fun i a x h1 h2 => ?_⟩, rfl, lh_start ok0⟩, s2.trans s3⟩ ?_ ?_
    · cases i with
      | zero => cases h1; cases h2; exact h03
      | succ i => cases h1
    · rintro i σ H3 hi ⟨⟨h, y3, y8, y9, ws, x, rfl, ⟨ps, hps, lps, hat⟩, hx0, lh⟩, sm⟩
      refine ⟨_, rfl, _, rfl, _, rfl, 1, rfl, h, _, rfl, SqL.of hps, fun p hp9 => ?_⟩
      rw [c1]
      have s4 := same_new (o := .lst ((ps.map V.ref).take 1)) hp9
      have hp4 : (upd H3 p (.lst ((ps.map V.ref).take 1))) p = some (.lst ((ps.take 1).map V.ref)) := by rw [upd_same, List.map_take]
      have at4 := fun i a x h1 h2 => s4 _ _ (hat i a x h1 h2)
      have sm4 := sm.trans s4
      generalize upd H3 p (.lst ((ps.map V.ref).take 1)) = G4 at *
      obtain ⟨lt, hlt⟩ : ∃ lt, tas[n - 1 - i]? = some lt := ⟨_, List.getElem?_eq_getElem (by omega)⟩
      have hl4 := sm4 _ _ (ta _ lt hlt)
      have tk : ws.take 1 = [x] := by
        cases ws with
        | nil => cases hx0
        | cons y ws => cases hx0; rfl
      have sN := M.run_lt x.1 lh.rn
      obtain ⟨y, hy, lh'⟩ := lh_on M.row lh hi
      refine ⟨_, rfl, _, rfl, tp, _, ((n - 1 - i : Nat) : Int), .ref lt, rfl, congrArg V.int (by omega), SqL.of (sm4 _ _ htp), atI_nat (by rw [List.getElem?_map, hlt]; rfl), ?_⟩
      refine ⟨L, rs, es, m, pr, pe, p, lt, rvs, [x], tabW rs es (n - 1 - i), rfl, M, MM.same (s1.trans sm4), ⟨ps.take 1, hp4, by rw [List.length_take, lps]; rw [← tk, List.length_take], fun j a z h1 h2 => ?_⟩, Nat.le_refl _, fun z hz => ?_, hl4, fun H5 p5 s5 hh5 => ?_⟩
      · cases j with
        | succ j => cases h2
        | zero =>
          cases h2
          rw [List.getElem?_take_of_lt (by omega)] at h1
          exact at4 0 a x h1 hx0
      · rw [List.mem_singleton.mp hz]
        exact ⟨sN, by rw [lh.ln]; omega⟩
      · rw [List.flatMap_cons, List.flatMap_nil, List.append_nil] at hh5
        exact ⟨⟨p5, _, _, _, _, y, rfl, hh5, hy, lh'⟩, sm4.trans s5⟩
    · rintro σ H3 ⟨⟨h, y3, y8, y9, ws, x, rfl, ⟨ps, hps, lps, hat⟩, hx0, lh⟩, sm⟩
      refine ⟨_, rfl, _, rfl, 1, rfl, h, _, rfl, SqL.of hps, fun p hp9 => ?_⟩
      rw [c1]
      have s4 := same_new (o := .lst ((ps.map V.ref).take 1)) hp9
      have hp4 : (upd H3 p (.lst ((ps.map V.ref).take 1))) p = some (.lst ((ps.map V.ref).take 1)) := upd_same
      have at4 := fun i a x h1 h2 => s4 _ _ (hat i a x h1 h2)
      have sm4 := sm.trans s4
      generalize upd H3 p (.lst ((ps.map V.ref).take 1)) = G4 at *
      refine ⟨p, rfl, ⟨_, SqL.of hp4⟩, fun D hD => ?_⟩
      obtain ⟨a0, ha0⟩ : ∃ a, ps[0]? = some a := ⟨_, List.getElem?_eq_getElem (by rw [lps]; exact (List.getElem?_eq_some_iff.mp hx0).1)⟩
      have h0 := at4 0 a0 x ha0 hx0
      have tk : (ps.map V.ref).take 1 = [V.ref a0] := by
        cases ps with
        | nil => cases ha0
        | cons y ps => cases ha0; rfl
      rw [tk] at hp4
      refine lc_list (K := K) (a := p) (xs := [V.ref a0]) (NInv (fun _ : Nat => V.str (wS x.1)) [0] G4 D) (nstart hD) (fun j H' _ q => SqL.of (q.1 _ _ hp4)) ?_ ?_
      · rintro j z H5 hz p5
        cases j with
        | succ j => cases hz
        | zero =>
          cases hz
          refine ⟨a0, _, rfl, SqT.of (p5.1 _ _ h0), rfl, _, _, rfl, _, _, rfl, rfl, ?_⟩
          refine ⟨rfl, _, rfl, nturn (f := fun _ : Nat => V.str (wS x.1)) (xs := [0]) (x := 0) (by decide) hD rfl p5 (Same.refl _)⟩
      · rintro H5 p5
        obtain ⟨s5, hl5⟩ := nend rfl p5
        have sm5 := sm4.trans s5
        exact ⟨D, _, rfl, .inl ⟨SqL.of hl5, fun l nl => k _ l x.1 x.2 ((s1.trans sm5).trans (same_new nl)) lh (sfree (s1.trans sm5) nl) upd_same⟩⟩
end
def tCallG (sp : Sp) (n : Nat) (t : TA) : TE := fun σ H Q => t σ H fun vs H1 => vs.length = n ∧ sp vs H1 Q E0
section
variable {X : Cx} {k : Nat} {f : Addr} {fd : FuncData} {sp : Sp} {x : Str} {p pos : Pos} {e : Expr} {es : List Expr} {t : TA} {ps : List Str}
/-- f(e, ..), where nothing is being shown -/
theorem pe_callG (F : GRun X.prog X.w X.K X.mg X.base k f fd ps sp) (hG : X.A.guards = some []) (hr : Room k X.A) (hg : Gl X x) (hm : X.mg x = some (.ref f)) (hk : PySem.W.keepIn X.K (.ref f) = true) (hb : Binds X.K fd ps [])
    (ha : PA X (e :: es) t) (hdb : (x == ("__debug__" : Str)) = false := by decide) (he : starEach (e :: es) X.env = (false, eval e X.env) :: starEach es X.env := by rfl) (hpl : (backTo pos (starEach es X.env)).any (·.1) = false := by rfl) :
    PE X (.Call (.Name x p) (e :: es) [] pos) (tCallG sp ps.length t) := by
  refine ⟨fun pins s σ H Q I h => ?_⟩
  refine wpAny_Call_Name_kw (ld_glob I hg hm ?_ hdb)
  refine PySem.W.callWith_K (h₀ := X.base) I.ok.mod.kin hk (thn (ha.run pos pins s σ H _ I h) fun us s1 ⟨vs, H1, I1, r, hl, q⟩ => ⟨I1.kIn, ?_⟩) he hpl
  have bd := hb s1 us I1.kIn (by rw [List.append_nil, ← r.length]; exact hl)
  rw [List.append_nil] at bd
  refine wpAny_call (codeAny_mono (F X.A X.stack s1 H1 us vs Q hG hr I1.env0 bd r hl q) fun r s' hq => ?_)
  cases r with
  | error e => exact hq.elim
  | ok fl =>
    cases fl with
    | ret u => exact I1.after hq
    | next => exact False.elim hq
    | brk => exact False.elim hq
    | cont => exact False.elim hq
end
/-! ### machines shown -/
theorem nodes_flat {α : Type} {f : α → PyData} {m : Nat} : ∀ {xs : List α}, (∀ x ∈ xs, nodes (f x) ≤ m) → nodesAll (xs.map f) ≤ m * xs.length
  | [], _ => by
    rw [List.map_nil, nodesAll_nil]
    exact Nat.zero_le _
  | x :: xs, h => by
    have h1 := h x List.mem_cons_self
    have h2 := nodes_flat (xs := xs) fun y hy => h y (List.mem_cons_of_mem _ hy)
    rw [List.map_cons, nodesAll_cons, List.length_cons, Nat.mul_add, Nat.mul_one]
    omega
section
variable {L : Nat} {rs : Rows} {es : List Bool}
theorem mach_nodes (M : MOk L rs es) : nodes (machDt L rs es) ≤ 2010 := by
  have L3 := M.L3
  have l4 := M.l400
  have h1 : nodesAll (rs.map rowDt) ≤ 4 * rs.length := nodes_flat fun row hrow => by
    unfold rowDt
    rw [nodes_tup]
    have h2 : nodesAll (row.map oD) ≤ 1 * row.length := nodes_flat fun o _ => by
      cases o with
      | none => exact Nat.le_refl _
      | some k => exact Nat.le_refl _
    have := M.row row hrow
    omega
  have h3 : nodesAll (es.map PyData.bool) ≤ 1 * es.length := nodes_flat fun b _ => Nat.le_refl _
  have := M.es
  unfold machDt
  rw [nodes_tup, nodesAll_cons, nodesAll_cons, nodesAll_cons, nodesAll_nil, nodes_tup, nodes_tup, show nodes (.int (L : Int)) = 1 from rfl]
  omega
theorem mach_sm (M : MOk L rs es) : sm (machDt L rs es) = true := by
  have L3 := M.L3
  have l4 := M.l400
  have nat_ : ∀ k : Nat, k ≤ 400 → sm (.int (k : Int)) = true := fun k hk => by
    rw [sm, decide_eq_true_eq, Int.natAbs_natCast]
    exact Nat.le_trans hk (by decide)
  unfold machDt
  rw [sm_tup]
  intro x hx
  rcases List.mem_cons.mp hx with z | hx
  · rw [z]
    exact nat_ L (by omega)
  rcases List.mem_cons.mp hx with z | hx
  · rw [z, sm_tup]
    intro y hy
    obtain ⟨row, hrow, rfl⟩ := List.mem_map.mp hy
    unfold rowDt
    rw [sm_tup]
    intro d hd
    obtain ⟨o, ho, rfl⟩ := List.mem_map.mp hd
    cases o with
    | none => rfl
    | some t =>
      have := M.tgt row hrow t ho
      exact nat_ t (by omega)
  · rw [List.mem_singleton.mp hx, sm_tup]
    intro y hy
    obtain ⟨b, _, rfl⟩ := List.mem_map.mp hy
    rfl
theorem mach_depth : (machDt L rs es).depth ≤ 3 := by
  unfold machDt
  rw [depth_tup]
  refine Nat.succ_le_succ (depthAll_le.mpr fun x hx => ?_)
  rcases List.mem_cons.mp hx with z | hx
  · rw [z]
    exact Nat.zero_le _
  rcases List.mem_cons.mp hx with z | hx
  · rw [z, depth_tup]
    refine Nat.succ_le_succ (depthAll_le.mpr fun y hy => ?_)
    obtain ⟨row, hrow, rfl⟩ := List.mem_map.mp hy
    unfold rowDt
    rw [depth_tup]
    refine Nat.succ_le_succ (depthAll_le.mpr fun d hd => ?_)
    obtain ⟨o, ho, rfl⟩ := List.mem_map.mp hd
    cases o <;> exact Nat.le_refl _
  · rw [List.mem_singleton.mp hx, depth_tup]
    refine Nat.succ_le_succ (depthAll_le.mpr fun y hy => ?_)
    obtain ⟨b, _, rfl⟩ := List.mem_map.mp hy
    exact Nat.zero_le _
/-- two machines in a list, shown -/
theorem two_show {L' : Nat} {rs' : Rows} {es' : List Bool} (M : MOk L rs es) (M' : MOk L' rs' es') : (PyData.list [machDt L rs es, machDt L' rs' es']).showable = true ∧ (PyData.list [machDt L rs es, machDt L' rs' es']).depth ≤ 60 ∧ (PyData.list [machDt L rs es, machDt L' rs' es']).shown.length ≤ sizeLine := by
  have hs : sm (PyData.list [machDt L rs es, machDt L' rs' es']) = true := by
    rw [sm_lst]
    intro x hx
    rcases List.mem_cons.mp hx with z | hx
    · rw [z]
      exact mach_sm M
    · rw [List.mem_singleton.mp hx]
      exact mach_sm M'
  refine ⟨sm_show _ hs, ?_, sm_fits hs ?_⟩
  · rw [depth_lst]
    refine Nat.succ_le_of_lt (Nat.lt_of_le_of_lt (depthAll_le (n := 3) |>.mpr fun x hx => ?_) (by decide))
    rcases List.mem_cons.mp hx with z | hx
    · rw [z]
      exact mach_depth
    · rw [List.mem_singleton.mp hx]
      exact mach_depth
  · have h1 := mach_nodes M
    have h2 := mach_nodes M'
    rw [nodes_lst, nodesAll_cons, nodesAll_cons, nodesAll_nil]
    omega
theorem one_show (M : MOk L rs es) : (machDt L rs es).showable = true ∧ (machDt L rs es).depth ≤ 60 ∧ (machDt L rs es).shown.length ≤ sizeLine :=
  ⟨sm_show _ (mach_sm M), Nat.le_trans mach_depth (by decide), sm_fits (mach_sm M) (Nat.le_trans (mach_nodes M) (by decide))⟩
end
theorem deck_tb {a c : Addr} {cells : List Int} {n : Int} {H : Hp} (dk : DeckAt a c cells n H) : TB (Bd a c) H := fun b z => by
  rcases z with z | z
  · rw [z, dk.2.1]
    exact fun y => by cases y
  · rw [z, dk.2.2.1]
    exact fun y => by cases y
/-! what stays where only tables of code objects grow -/
section
open NdefX LamX
/-- a table stays while the deck is drawn from -/
theorem tab_deck {a c P : Addr} {nm : Nat → Nat → Str} {cells : List Int} {n : Int} {H H' : Hp} (dk : DeckAt a c cells n H) (k : Keep (Bd a c) H H') (t : TabN H P nm) : TabN H' P nm := by
  obtain ⟨ps, h1, h2, h3⟩ := t
  have off : ∀ {b : Addr} {o : HO}, H b = some o → (∀ xs, o ≠ .lst xs) → ¬ Bd a c b := fun e nl => bd_ne e nl dk.2.1 dk.2.2.1
  refine ⟨ps, k _ _ (off h1 (fun _ z => nomatch z)) h1, h2, fun pos cv hc => ?_⟩
  obtain ⟨c', e1, e2⟩ := h3 pos cv hc
  exact ⟨c', e1, k _ _ (off e2 (fun xs z => nomatch z)) e2⟩
end
/-! ### drawn machines -/
theorem rows_of {L : Nat} {m : Int} : ∀ {rs : List PyData}, (∀ r ∈ rs, RowD (L : Int) m r) → ∃ rows : Rows, rs = rows.map rowDt ∧ ∀ row ∈ rows, row.length = L ∧ ∀ v, some v ∈ row → (v : Int) < m
  | [], _ => ⟨[], rfl, fun _ h => absurd h List.not_mem_nil⟩
  | r :: rs, h => by
    obtain ⟨rows, e, h1⟩ := rows_of (rs := rs) fun r' hr => h r' (List.mem_cons_of_mem _ hr)
    obtain ⟨is, e2, h2, h3⟩ := h r List.mem_cons_self
    have : ∀ {is : List PyData}, (∀ i ∈ is, Ri m i) → ∃ row : List (Option Nat), is = row.map oD ∧ ∀ v, some v ∈ row → (v : Int) < m := by
      intro is
      induction is with
      | nil => intro _; exact ⟨[], rfl, fun _ h => absurd h List.not_mem_nil⟩
      | cons i is ih =>
        intro hi
        obtain ⟨row, e, hv⟩ := ih fun j hj => hi j (List.mem_cons_of_mem _ hj)
        rcases hi i List.mem_cons_self with rfl | ⟨k, rfl, k0, k1⟩
        · exact ⟨none :: row, by rw [e]; rfl, fun v hm => by
            rcases List.mem_cons.mp hm with hm | hm
            · cases hm
            · exact hv v hm⟩
        · refine ⟨some k.toNat :: row, by rw [e, List.map_cons]; show _ = PyData.int (k.toNat : Int) :: _; rw [Int.toNat_of_nonneg k0], fun v hm => ?_⟩
          rcases List.mem_cons.mp hm with hm | hm
          · cases hm
            omega
          · exact hv v hm
    obtain ⟨row, e3, hv⟩ := this h3
    refine ⟨row :: rows, by rw [e, e2, e3]; rfl, fun row' hr => ?_⟩
    rcases List.mem_cons.mp hr with hr | hr
    · rw [hr]
      refine ⟨?_, hv⟩
      rw [e3, List.length_map] at h2
      omega
    · exact h1 row' hr
theorem ends_of : ∀ {es : List PyData}, (∀ e ∈ es, isBool e = true) → ∃ bs : List Bool, es = bs.map .bool
  | [], _ => ⟨[], rfl⟩
  | e :: es, h => by
    obtain ⟨bs, e1⟩ := ends_of fun e' he => h e' (List.mem_cons_of_mem _ he)
    have := h e List.mem_cons_self
    cases e with
    | bool b => exact ⟨b :: bs, by rw [e1]; rfl⟩
    | _ => cases this
theorem mach_of {K : PySem.W.Frag} {a c : Addr} {H : Hp} {v : V} {L : Nat} {M : Int} {rs es : List PyData} (h : MachD K a c H v (L : Int) M rs es) (L1 : 1 ≤ L) (L3 : L ≤ 3) (hM : M ≤ 400) :
    ∃ (rows : Rows) (bs : List Bool), Dt (Bd a c) K H v (machDt L rows bs) ∧ MOk L rows bs ∧ (rows.length : Int) ≤ M := by
  obtain ⟨h1, h2, h3, h4, h5, h6⟩ := h
  obtain ⟨rows, rfl, h7⟩ := rows_of h5
  obtain ⟨bs, rfl⟩ := ends_of h6
  rw [List.length_map] at h2 h3 h4
  rw [List.length_map] at h4
  refine ⟨rows, bs, h1, ⟨h2, by omega, fun row hr => (h7 row hr).1, fun row hr v hv => ?_, h4, L1, L3⟩, h3⟩
  have := (h7 row hr).2 v hv
  rw [List.length_map] at this
  omega
section
variable {B : Addr → Prop} {K : PySem.W.Frag} {H : Hp}
theorem dp_cs {α : Type} {fD : α → PyData} {fV : α → V} (h1 : ∀ x, Dp K H (fV x) (fD x)) : ∀ xs : List α, DpAll K H (xs.map fV) (xs.map fD)
  | [] => .nil
  | x :: xs => .cons (h1 x) (dp_cs h1 xs)
theorem dp_rows : ∀ (rs : Rows) (rvs : List V), DtAll B K H rvs (rs.map rowDt) → DpAll K H rvs (rs.map rowDt)
  | [], _, h => by
    cases h
    exact .nil
  | row :: rs, _, h => by
    cases h with
    | cons h1 h2 =>
      refine .cons ?_ (dp_rows rs _ h2)
      obtain ⟨q, xs, rfl, nb, hq, ha, _⟩ := h1.tup_rd
      rw [dt_sc o_sc ha] at hq
      refine .tup (.inl hq) (dp_cs (fun o => ?_) row)
      cases o with
      | none => exact .non
      | some k => exact .int _
theorem mach_dp {L : Nat} {rs : Rows} {es : List Bool} {v : V} (h : Dt B K H v (machDt L rs es)) : Dp K H v (machDt L rs es) := by
  obtain ⟨m, xs, rfl, nm, hm, ha, _⟩ := h.tup_rd
  cases ha with
  | cons h1 ha =>
    cases ha with
    | cons h2 ha =>
      cases ha with
      | cons h3 ha =>
        cases ha
        cases h1
        obtain ⟨pr, rvs, rfl, n2, hr, har, _⟩ := h2.tup_rd
        obtain ⟨pe, evs, rfl, n3, he, hae, _⟩ := h3.tup_rd
        rw [dt_sc b_sc hae] at he
        exact .tup (.inl hm) (.cons (.int _) (.cons (.tup (.inl hr) (dp_rows rs _ har)) (.cons (.tup (.inl he) (dp_cs (fun x => Dp.bl x) es)) .nil)))
end
/-! ### machines by their languages -/
theorem eqvAll_map {α : Type} {f : α → PyData} : ∀ (xs ys : List α), (∀ x ∈ xs, ∀ y ∈ ys, PyData.eqv (f x) (f y) = true → x = y) → PyData.eqvAll (xs.map f) (ys.map f) = true → xs = ys
  | [], [], _, _ => rfl
  | [], _ :: _, _, e => by
    rw [List.map_nil, List.map_cons, PyData.eqvAll] at e
    cases e
  | _ :: _, [], _, e => by
    rw [List.map_nil, List.map_cons, PyData.eqvAll] at e
    cases e
  | x :: xs, y :: ys, h, e => by
    rw [List.map_cons, List.map_cons, PyData.eqvAll] at e
    obtain ⟨e1, e2⟩ := Bool.and_eq_true_iff.mp e
    rw [h x List.mem_cons_self y List.mem_cons_self e1, eqvAll_map xs ys (fun a ha b hb => h a (List.mem_cons_of_mem _ ha) b (List.mem_cons_of_mem _ hb)) e2]
theorem oD_eqv : ∀ (o o' : Option Nat), PyData.eqv (oD o) (oD o') = true → o = o'
  | none, none, _ => rfl
  | none, some _, e => by
    unfold oD PyData.eqv at e
    cases e
  | some _, none, e => by
    unfold oD PyData.eqv at e
    cases e
  | some a, some b, e => by
    have e : ((a : Int) == (b : Int)) = true := by
      unfold oD PyData.eqv at e
      exact e
    have := eq_of_beq e
    rw [Int.ofNat.inj this]
theorem mach_eqv {L : Nat} {rs rs' : Rows} {es es' : List Bool} (e : PyData.eqv (machDt L rs es) (machDt L rs' es') = true) : rs = rs' ∧ es = es' := by
  unfold machDt at e
  rw [PyData.eqv, PyData.eqvAll, PyData.eqvAll, PyData.eqvAll, PyData.eqvAll] at e
  obtain ⟨_, e⟩ := Bool.and_eq_true_iff.mp e
  obtain ⟨e1, e⟩ := Bool.and_eq_true_iff.mp e
  obtain ⟨e2, _⟩ := Bool.and_eq_true_iff.mp e
  rw [PyData.eqv] at e1 e2
  refine ⟨eqvAll_map _ _ (fun x _ y _ h => ?_) e1, eqvAll_map _ _ (fun x _ y _ h => ?_) e2⟩
  · unfold rowDt at h
    rw [PyData.eqv] at h
    exact eqvAll_map _ _ (fun a _ b _ q => oD_eqv a b q) h
  · rw [PyData.eqv] at h
    exact eq_of_beq h
theorem layAll {α : Type} {f : α → PyData} (h : ∀ x, PyData.canLay0 (f x) = true) : ∀ xs : List α, PyData.canLayAll0 (xs.map f) = true
  | [] => by rw [List.map_nil, PyData.canLayAll0]
  | x :: xs => by rw [List.map_cons, PyData.canLayAll0, h, layAll h xs]; rfl
theorem mach_lay {L : Nat} {rs : Rows} {es : List Bool} : PyData.canLay0 (machDt L rs es) = true := by
  unfold machDt
  have h1 : PyData.canLay0 (.tuple (rs.map rowDt)) = true := by
    rw [PyData.canLay0]
    refine layAll (fun row => ?_) rs
    unfold rowDt
    rw [PyData.canLay0]
    refine layAll (fun o => ?_) row
    cases o <;> (unfold oD; rw [PyData.canLay0])
  have h2 : PyData.canLay0 (.tuple (es.map .bool)) = true := by
    rw [PyData.canLay0]
    exact layAll (fun b => by rw [PyData.canLay0]) es
  rw [PyData.canLay0, PyData.canLayAll0, PyData.canLayAll0, PyData.canLayAll0, PyData.canLayAll0, h1, h2, PyData.canLay0]
  rfl
theorem mach_shaped {L : Nat} {rs : Rows} {es : List Bool} : SeqAt.shaped (machDt L rs es) = true := by
  refine Bool.and_eq_true_iff.mpr ⟨mach_lay, decide_eq_true (Nat.le_trans mach_depth (by decide))⟩
theorem mach_refl {L : Nat} {rs : Rows} {es : List Bool} : PyData.eqv (machDt L rs es) (machDt L rs es) = true := PySem.SeqAt.eqv_refl _ mach_lay
/-- all words of the letters -/
def evB (L : Nat) (w : List Nat) : Bool := w.all fun c => decide (c < L)
theorem evB_iff {L : Nat} {w : List Nat} : evB L w = true ↔ Wl L w := by
  unfold evB Wl
  rw [List.all_eq_true]
  exact ⟨fun h c hc => of_decide_eq_true (h c hc), fun h c hc => decide_eq_true (h c hc)⟩
abbrev B4 := Bool → Bool → Bool → Bool → Bool
/-- a language made of three, and of all words -/
def Lg (L : Nat) (p q r : List Nat → Bool) (G : B4) : List Nat → Bool := fun w => G (p w) (q w) (r w) (evB L w)
/-- three languages of machines of up to six states -/
structure Tri (L : Nat) (p q r : List Nat → Bool) : Prop where
  L1 : 1 ≤ L
  L3 : L ≤ 3
  wp : WCls L p 7
  wq : WCls L q 7
  wr : WCls L r 7
  vp : ∀ w, p w = true → Wl L w
  vq : ∀ w, q w = true → Wl L w
  vr : ∀ w, r w = true → Wl L w
theorem Tri.wcls {L : Nat} {p q r : List Nat → Bool} (T : Tri L p q r) (G : B4) : WCls L (Lg L p q r G) 400 := by
  obtain ⟨a, a1, a2⟩ := T.wp
  obtain ⟨b, b1, b2⟩ := T.wq
  obtain ⟨c, c1, c2⟩ := T.wr
  have m : ∀ {x y z : Nat}, x < 7 → y < 7 → z < 7 → x * 49 + y * 7 + z < 400 := by
    intro x y z h1 h2 h3
    omega
  refine ⟨fun w => a w * 49 + b w * 7 + c w, fun w hw => m (a1 w hw) (b1 w hw) (c1 w hw), fun w w' hw hw' e v => ?_⟩
  have e : a w * 49 + b w * 7 + c w = a w' * 49 + b w' * 7 + c w' := e
  have := a1 w hw
  have := b1 w hw
  have := c1 w hw
  have := a1 w' hw'
  have := b1 w' hw'
  have := c1 w' hw'
  have e1 : a w = a w' := by omega
  have e2 : b w = b w' := by omega
  have e3 : c w = c w' := by omega
  have e4 : evB L (w ++ v) = evB L (w' ++ v) := by
    unfold evB
    rw [List.all_append, List.all_append]
    have h1 : (w.all fun c => decide (c < L)) = true := evB_iff.mpr hw
    have h2 : (w'.all fun c => decide (c < L)) = true := evB_iff.mpr hw'
    rw [h1, h2]
  show G (p (w ++ v)) (q (w ++ v)) (r (w ++ v)) (evB L (w ++ v)) = G (p (w' ++ v)) (q (w' ++ v)) (r (w' ++ v)) (evB L (w' ++ v))
  rw [a2 w w' hw hw' e1 v, b2 w w' hw hw' e2 v, c2 w w' hw hw' e3 v, e4]
/-- alike wherever words can be -/
def Alk4 (G G' : B4) : Bool :=
  [true, false].all fun a => [true, false].all fun b => [true, false].all fun c => [true, false].all fun d => ((a || b || c) && !d) || (G a b c d == G' a b c d)
theorem Tri.alike {L : Nat} {p q r : List Nat → Bool} (T : Tri L p q r) {G G' : B4} (h : Alk4 G G' = true) (w : List Nat) : Lg L p q r G w = Lg L p q r G' w := by
  unfold Lg
  have v : (p w || q w || r w) = true → evB L w = true := fun z => by
    rw [evB_iff]
    rcases Bool.or_eq_true_iff.mp z with z | z
    · rcases Bool.or_eq_true_iff.mp z with z | z
      · exact T.vp w z
      · exact T.vq w z
    · exact T.vr w z
  generalize p w = a at *
  generalize q w = b at *
  generalize r w = c at *
  generalize evB L w = d at *
  have mem : ∀ x : Bool, x ∈ [true, false] := fun x => by cases x <;> decide
  have h := List.all_eq_true.mp h a (mem a)
  have h := List.all_eq_true.mp h b (mem b)
  have h := List.all_eq_true.mp h c (mem c)
  have h := List.all_eq_true.mp h d (mem d)
  rcases Bool.or_eq_true_iff.mp h with h | h
  · obtain ⟨h1, h2⟩ := Bool.and_eq_true_iff.mp h
    rw [v h1] at h2
    cases h2
  · exact eq_of_beq h
section
open NdefX LamX
variable {B : Addr → Prop} {K : PySem.W.Frag} {H H' : Hp} {L : Nat} {p q r : List Nat → Bool} {G G' : B4} {x y v : V}
/-- a machine of such a language -/
def Lm (B : Addr → Prop) (K : PySem.W.Frag) (H : Hp) (L : Nat) (p q r : List Nat → Bool) (G : B4) (v : V) : Prop := ∃ rs es, Dt B K H v (machDt L rs es) ∧ MOk L rs es ∧ ∀ w, acc rs es w 0 = Lg L p q r G w
/-- the smallest one -/
def Bm (B : Addr → Prop) (K : PySem.W.Frag) (H : Hp) (L : Nat) (p q r : List Nat → Bool) (G : B4) (v : V) : Prop := ∃ rs es, Dt B K H v (machDt L rs es) ∧ MOk L rs es ∧ Best L (Lg L p q r G) rs es
theorem Bm.lm (h : Bm B K H L p q r G v) : Lm B K H L p q r G v := by
  obtain ⟨rs, es, d, m, b⟩ := h
  exact ⟨rs, es, d, m, fun w => b.acc w⟩
theorem Lm.ext (e : ExtN H H') (h : Lm B K H L p q r G v) : Lm B K H' L p q r G v := by
  obtain ⟨rs, es, d, m, b⟩ := h
  exact ⟨rs, es, Dt.extN e _ _ d, m, b⟩
theorem Bm.ext (e : ExtN H H') (h : Bm B K H L p q r G v) : Bm B K H' L p q r G v := by
  obtain ⟨rs, es, d, m, b⟩ := h
  exact ⟨rs, es, Dt.extN e _ _ d, m, b⟩
theorem two_call {TS : List NTab} {g : Bool → Bool → Bool} {Q : VK} {E : XK} (T : Tri L p q r) (tb : TBx B H) (tN : TabsN TS H) (hx : Lm B K H L p q r G x) (hy : Lm B K H L p q r G' y)
    (k : ∀ H' v, ExtN H H' → TabsN TS H' → Bm B K H' L p q r (fun a b c d => g (G a b c d) (G' a b c d)) v → Q v H') : spTwo K TS g [x, y] H Q E := by
  obtain ⟨r1, e1, d1, m1, l1⟩ := hx
  obtain ⟨r2, e2, d2, m2, l2⟩ := hy
  have e : (fun w => g (acc r1 e1 w 0) (acc r2 e2 w 0)) = Lg L p q r fun a b c d => g (G a b c d) (G' a b c d) := by
    funext w
    rw [l1, l2]
    rfl
  refine ⟨L, r1, r2, e1, e2, x, y, B, rfl, d1, d2, m1, m2, tb, tN, ?_, fun H' v out oe x' t' d' b' m' => k H' v x' t' ⟨out, oe, d', m', ?_⟩⟩
  · rw [e]
    exact T.wcls _
  · rw [← e]
    exact b'
theorem small_call {Q : VK} {E : XK} (T : Tri L p q r) (tb : TBx B H) (hx : Lm B K H L p q r G x) (k : ∀ H' v, Same H H' → Bm B K H' L p q r G v → Q v H') : spSmallest K [x] H Q E := by
  obtain ⟨r1, e1, d1, m1, l1⟩ := hx
  refine ⟨L, r1, e1, x, B, rfl, d1, m1, tb.tb, fun H' v out oe s d S => k H' v s ⟨out, oe, d, small_mok S ?_ T.L1 T.L3, ?_⟩⟩
  · exact small_len S (wcls_cls m1.row l1 (T.wcls G)) (by decide)
  · exact (best_self S).congr l1
theorem Bm.eq (T : Tri L p q r) (hx : Bm B K H L p q r G x) (hy : Bm B K H L p q r G' y) (a : Alk4 G G' = true) : ∃ rs es, Dt B K H x (machDt L rs es) ∧ Dt B K H y (machDt L rs es) ∧ MOk L rs es := by
  obtain ⟨rs, es, d1, m1, b1⟩ := hx
  obtain ⟨rs', es', d2, m2, b2⟩ := hy
  obtain ⟨rfl, rfl⟩ := b1.eq (b2.congr fun w => (T.alike a w).symm)
  exact ⟨rs, es, d1, d2, m1⟩
theorem eq_call {Q : VK} (T : Tri L p q r) (hx : Bm B K H L p q r G x) (hy : Bm B K H L p q r G' y) (a : Alk4 G G' = true) (k : Q (.bl true) H) : rEqD K x y H Q := by
  obtain ⟨rs, es, d1, d2, _⟩ := hx.eq T hy a
  refine ⟨_, _, mach_dp d1, mach_dp d2, mach_shaped, mach_shaped, ?_⟩
  rw [mach_refl]
  exact k
theorem ne_call {Q : VK} (T : Tri L p q r) (hx : Bm B K H L p q r G x) (hy : Bm B K H L p q r G' y) (a : Alk4 G G' = true) (k : Q (.bl false) H) : rNeD K x y H Q := by
  obtain ⟨rs, es, d1, d2, _⟩ := hx.eq T hy a
  refine ⟨_, _, mach_dp d1, mach_dp d2, mach_shaped, mach_shaped, ?_⟩
  rw [mach_refl]
  exact k
/-- the machine of no words -/
theorem none_of {out : Rws} {oe : List Bool} {s : List Nat → Bool} (h : Best L s out oe) (n : ∀ w, s w = false) : out = [List.replicate L none] ∧ oe = [false] := by
  obtain ⟨rs, es, S, e⟩ := h
  rcases S with ⟨ps, C⟩ | ⟨_, e1, e2⟩
  · obtain ⟨w, hw⟩ := canon_live C
    rw [e, n] at hw
    cases hw
  · exact ⟨e1, e2⟩
theorem Bm.none (hx : Bm B K H L p q r G x) (n : ∀ w, Lg L p q r G w = false) : Dt B K H x (machDt L [List.replicate L none] [false]) := by
  obtain ⟨rs, es, d1, m1, b1⟩ := hx
  obtain ⟨rfl, rfl⟩ := none_of b1 n
  exact d1
theorem Lm.to (hx : Lm B K H L p q r G x) : ∃ rs es, Dt B K H x (machDt L rs es) ∧ MOk L rs es ∧ (fun w => acc rs es w 0) = Lg L p q r G := by
  obtain ⟨rs, es, d1, m1, b1⟩ := hx
  exact ⟨rs, es, d1, m1, funext b1⟩
end
/-! ### sets of words go along with one another -/
section
open NdefX LamX
variable {P : Program} {w : World} {K : PySem.W.Frag} {mg : Str → Option Value} {base : Heap}
theorem scSetsR : FnScope ["_law_one_here", "_law_other", "_law_third", "_law_every"] ["_law_one_here", "_law_other", "_law_third", "_law_every"] (defScope sSetsR) := ⟨rfl, rfl, rfl, by decide +kernel, rfl, by decide +kernel, by decide +kernel⟩
/-- three machines of such languages, the last one in its place perhaps the machine of all words -/
def spSets (K : PySem.W.Frag) (TS : List NTab) : Sp := fun vs H Q _ => ∃ (L : Nat) (p q r : List Nat → Bool) (B : Addr → Prop) (x y z v : V), vs = [x, y, z, v] ∧ Tri L p q r ∧ TBx B H ∧ TabsN TS H ∧
  Lm B K H L p q r (fun a _ _ _ => a) x ∧ Lm B K H L p q r (fun _ b _ _ => b) y ∧ Lm B K H L p q r (fun _ _ c _ => c) z ∧ Lm B K H L p q r (fun _ _ _ d => d) v ∧
  ∀ H', ExtN H H' → TabsN TS H' → Q (.bl true) H'
theorem ok_sets {f fBO fEI fLE fSM fSZ : Addr} {fd fdBO fdEI fdLE fdSM fdSZ : FuncData} {cBO PBO cEI PEI cLE PLE : Addr} {TS : List NTab} (F : Fun K "_law_sets_right" "_law_sets_right" sSetsR f fd)
    (BO : FnOk P w K mg base CX0 6 fBO fdBO ["one", "other"] (spTwo K TS fun a b => a && b)) (FBO : FunT K "both" "both" sBoth fBO fdBO cBO PBO) (bBO : Binds K fdBO ["one", "other"] []) (gBO : mg "both" = some (.ref fBO)) (EI : FnOk P w K mg base CX0 6 fEI fdEI ["one", "other"] (spTwo K TS fun a b => a || b)) (FEI : FunT K "either" "either" sEither fEI fdEI cEI PEI) (bEI : Binds K fdEI ["one", "other"] []) (gEI : mg "either" = some (.ref fEI)) (LE : FnOk P w K mg base CX0 6 fLE fdLE ["one", "other"] (spTwo K TS fun a b => a && !b)) (FLE : FunT K "less" "less" sLess fLE fdLE cLE PLE) (bLE : Binds K fdLE ["one", "other"] []) (gLE : mg "less" = some (.ref fLE)) (SM : FnOk P w K mg base CX0 5 fSM fdSM ["machine"] (spSmallest K)) (FSM : Fun K "smallest" "smallest" sSmallest fSM fdSM) (bSM : Binds K fdSM ["machine"] []) (gSM : mg "smallest" = some (.ref fSM)) (SZ : FnOk P w K mg base CX0 3 fSZ fdSZ ["machine"] (spSize0 K)) (FSZ : Fun K "size" "size" sSize fSZ fdSZ) (bSZ : Binds K fdSZ ["machine"] []) (gSZ : mg "size" = some (.ref fSZ)) (T : Mg mg) : FnOk P w K mg base CX0 7 f fd ["_law_one_here", "_law_other", "_law_third", "_law_every"] (spSets K TS) := by
  refine F.ok scSetsR (fun vs H Q E h => ?_) (fun cdv A outer s H vs Q E hr h => ?_)
  · obtain ⟨L, p, q, r, B, x, y, z, v, rfl, _⟩ := h
    rfl
  · obtain ⟨L, p, q, r, B, x, y, z, v, rfl, T3, tb, tN, h0, h1, h2, h3, k⟩ := h
    have ee := ExtN.refl H
    refine ⟨_, (pss_cons (ps_if (PW.pt (pw_or (pt_cmpR (op_neD hr.units) (pe_call BO (hr.mono (by decide)) (by rfl) gBO FBO.kp bBO .nil pass0 (pa_cons (pv 0) (pa_cons (pv 1) pa_nil))) (pe_call BO (hr.mono (by decide)) (by rfl) gBO FBO.kp bBO .nil pass0 (pa_cons (pv 1) (pa_cons (pv 0) pa_nil))) (nomark _)) (pw_or1 (pt_cmpR (op_neD hr.units) (pe_call EI (hr.mono (by decide)) (by rfl) gEI FEI.kp bEI .nil pass0 (pa_cons (pv 0) (pa_cons (pv 1) pa_nil))) (pe_call EI (hr.mono (by decide)) (by rfl) gEI FEI.kp bEI .nil pass0 (pa_cons (pv 1) (pa_cons (pv 0) pa_nil))) (nomark _))))) (pss_one (ps_ret pe_bl)) pss_nil)
      (pss_cons (ps_if (pt_cmpR (op_neD hr.units) (pe_call BO (hr.mono (by decide)) (by rfl) gBO FBO.kp bBO .nil pass0 (pa_cons (pv 0) (pa_cons (pe_call EI (hr.mono (by decide)) (by rfl) gEI FEI.kp bEI .nil pass0 (pa_cons (pv 1) (pa_cons (pv 2) pa_nil))) pa_nil))) (pe_call EI (hr.mono (by decide)) (by rfl) gEI FEI.kp bEI .nil pass0 (pa_cons (pe_call BO (hr.mono (by decide)) (by rfl) gBO FBO.kp bBO .nil pass0 (pa_cons (pv 0) (pa_cons (pv 1) pa_nil))) (pa_cons (pe_call BO (hr.mono (by decide)) (by rfl) gBO FBO.kp bBO .nil pass0 (pa_cons (pv 0) (pa_cons (pv 2) pa_nil))) pa_nil))) (nomark _)) (pss_one (ps_ret pe_bl)) pss_nil)
      (pss_cons (ps_if (pt_cmpR (op_neD hr.units) (pe_call LE (hr.mono (by decide)) (by rfl) gLE FLE.kp bLE .nil pass0 (pa_cons (pv 0) (pa_cons (pe_call EI (hr.mono (by decide)) (by rfl) gEI FEI.kp bEI .nil pass0 (pa_cons (pv 1) (pa_cons (pv 2) pa_nil))) pa_nil))) (pe_call BO (hr.mono (by decide)) (by rfl) gBO FBO.kp bBO .nil pass0 (pa_cons (pe_call LE (hr.mono (by decide)) (by rfl) gLE FLE.kp bLE .nil pass0 (pa_cons (pv 0) (pa_cons (pv 1) pa_nil))) (pa_cons (pe_call LE (hr.mono (by decide)) (by rfl) gLE FLE.kp bLE .nil pass0 (pa_cons (pv 0) (pa_cons (pv 2) pa_nil))) pa_nil))) (nomark _)) (pss_one (ps_ret pe_bl)) pss_nil)
      (pss_cons (ps_if (pt_cmpR (op_neD hr.units) (pe_call LE (hr.mono (by decide)) (by rfl) gLE FLE.kp bLE .nil pass0 (pa_cons (pv 3) (pa_cons (pe_call BO (hr.mono (by decide)) (by rfl) gBO FBO.kp bBO .nil pass0 (pa_cons (pv 0) (pa_cons (pv 1) pa_nil))) pa_nil))) (pe_call EI (hr.mono (by decide)) (by rfl) gEI FEI.kp bEI .nil pass0 (pa_cons (pe_call LE (hr.mono (by decide)) (by rfl) gLE FLE.kp bLE .nil pass0 (pa_cons (pv 3) (pa_cons (pv 0) pa_nil))) (pa_cons (pe_call LE (hr.mono (by decide)) (by rfl) gLE FLE.kp bLE .nil pass0 (pa_cons (pv 3) (pa_cons (pv 1) pa_nil))) pa_nil))) (nomark _)) (pss_one (ps_ret pe_bl)) pss_nil)
      (pss_cons (ps_if (PW.pt (pw_or (pt_cmpR (op_neD hr.units) (pe_call LE (hr.mono (by decide)) (by rfl) gLE FLE.kp bLE .nil pass0 (pa_cons (pv 3) (pa_cons (pe_call LE (hr.mono (by decide)) (by rfl) gLE FLE.kp bLE .nil pass0 (pa_cons (pv 3) (pa_cons (pv 0) pa_nil))) pa_nil))) (pe_call SM (hr.mono (by decide)) (by rfl) gSM FSM.kp bSM .nil pass0 (pa_cons (pv 0) pa_nil)) (nomark _)) (pw_or1 (pt_cmpR (op_neD hr.units) (pe_call BO (hr.mono (by decide)) (by rfl) gBO FBO.kp bBO .nil pass0 (pa_cons (pv 0) (pa_cons (pv 3) pa_nil))) (pe_call SM (hr.mono (by decide)) (by rfl) gSM FSM.kp bSM .nil pass0 (pa_cons (pv 0) pa_nil)) (nomark _))))) (pss_one (ps_ret pe_bl)) pss_nil)
      (pss_cons (ps_if (PW.pt (pw_or (pt_cmpR (op_neD hr.units) (pe_call EI (hr.mono (by decide)) (by rfl) gEI FEI.kp bEI .nil pass0 (pa_cons (pe_call LE (hr.mono (by decide)) (by rfl) gLE FLE.kp bLE .nil pass0 (pa_cons (pv 0) (pa_cons (pv 1) pa_nil))) (pa_cons (pe_call BO (hr.mono (by decide)) (by rfl) gBO FBO.kp bBO .nil pass0 (pa_cons (pv 0) (pa_cons (pv 1) pa_nil))) pa_nil))) (pe_call SM (hr.mono (by decide)) (by rfl) gSM FSM.kp bSM .nil pass0 (pa_cons (pv 0) pa_nil)) (nomark _)) (pw_or1 (pt_cmpR (op_neD hr.units) (pe_call BO (hr.mono (by decide)) (by rfl) gBO FBO.kp bBO .nil pass0 (pa_cons (pv 0) (pa_cons (pv 0) pa_nil))) (pe_call SM (hr.mono (by decide)) (by rfl) gSM FSM.kp bSM .nil pass0 (pa_cons (pv 0) pa_nil)) (nomark _))))) (pss_one (ps_ret pe_bl)) pss_nil)
      (pss_one (ps_ret (pe_and (pe_cmpR (op_eqD hr.units) (pe_call LE (hr.mono (by decide)) (by rfl) gLE FLE.kp bLE .nil pass0 (pa_cons (pv 0) (pa_cons (pv 1) pa_nil))) (pe_call BO (hr.mono (by decide)) (by rfl) gBO FBO.kp bBO .nil pass0 (pa_cons (pv 0) (pa_cons (pe_call LE (hr.mono (by decide)) (by rfl) gLE FLE.kp bLE .nil pass0 (pa_cons (pv 3) (pa_cons (pv 1) pa_nil))) pa_nil))) (nomark _)) (pe_one (pe_cmpR op_eq (pe_call SZ (hr.mono (by decide)) (by rfl) gSZ FSZ.kp bSZ .nil pass0 (pa_cons (pe_call LE (hr.mono (by decide)) (by rfl) gLE FLE.kp bLE .nil pass0 (pa_cons (pv 0) (pa_cons (pv 0) pa_nil))) pa_nil)) pe_int (nomark _)))))))))))), ?_⟩
    refine ⟨_, rfl, _, rfl, two_call (E := E0) (g := fun a b => a && b) T3 tb tN h0 h1 fun H1 v1 x1 t1 b1 => ?_⟩
    replace tN := t1
    replace tb := tb.ext x1
    replace ee := ee.trans x1
    replace h0 := h0.ext x1
    replace h1 := h1.ext x1
    replace h2 := h2.ext x1
    replace h3 := h3.ext x1
    refine ⟨_, rfl, _, rfl, two_call (E := E0) (g := fun a b => a && b) T3 tb tN h1 h0 fun H2 v2 x2 t2 b2 => ?_⟩
    replace tN := t2
    replace tb := tb.ext x2
    replace ee := ee.trans x2
    replace h0 := h0.ext x2
    replace h1 := h1.ext x2
    replace h2 := h2.ext x2
    replace h3 := h3.ext x2
    replace b1 := b1.ext x2
    refine ne_call T3 b1 b2 (by decide +kernel) ?_
    refine ⟨false, rfl, ?_⟩
    refine ⟨_, rfl, _, rfl, two_call (E := E0) (g := fun a b => a || b) T3 tb tN h0 h1 fun H3 v3 x3 t3 b3 => ?_⟩
    replace tN := t3
    replace tb := tb.ext x3
    replace ee := ee.trans x3
    replace h0 := h0.ext x3
    replace h1 := h1.ext x3
    replace h2 := h2.ext x3
    replace h3 := h3.ext x3
    refine ⟨_, rfl, _, rfl, two_call (E := E0) (g := fun a b => a || b) T3 tb tN h1 h0 fun H4 v4 x4 t4 b4 => ?_⟩
    replace tN := t4
    replace tb := tb.ext x4
    replace ee := ee.trans x4
    replace h0 := h0.ext x4
    replace h1 := h1.ext x4
    replace h2 := h2.ext x4
    replace h3 := h3.ext x4
    replace b3 := b3.ext x4
    refine ne_call T3 b3 b4 (by decide +kernel) ?_
    refine ⟨false, rfl, ?_⟩
    refine ite2 (fun z => absurd z Bool.false_ne_true) (fun _ => ?_)
    refine ⟨_, rfl, _, rfl, _, rfl, two_call (E := E0) (g := fun a b => a || b) T3 tb tN h1 h2 fun H5 v5 x5 t5 b5 => ?_⟩
    replace tN := t5
    replace tb := tb.ext x5
    replace ee := ee.trans x5
    replace h0 := h0.ext x5
    replace h1 := h1.ext x5
    replace h2 := h2.ext x5
    replace h3 := h3.ext x5
    refine two_call (E := E0) (g := fun a b => a && b) T3 tb tN h0 b5.lm fun H6 v6 x6 t6 b6 => ?_
    replace tN := t6
    replace tb := tb.ext x6
    replace ee := ee.trans x6
    replace h0 := h0.ext x6
    replace h1 := h1.ext x6
    replace h2 := h2.ext x6
    replace h3 := h3.ext x6
    refine ⟨_, rfl, _, rfl, two_call (E := E0) (g := fun a b => a && b) T3 tb tN h0 h1 fun H7 v7 x7 t7 b7 => ?_⟩
    replace tN := t7
    replace tb := tb.ext x7
    replace ee := ee.trans x7
    replace h0 := h0.ext x7
    replace h1 := h1.ext x7
    replace h2 := h2.ext x7
    replace h3 := h3.ext x7
    replace b6 := b6.ext x7
    refine ⟨_, rfl, _, rfl, two_call (E := E0) (g := fun a b => a && b) T3 tb tN h0 h2 fun H8 v8 x8 t8 b8 => ?_⟩
    replace tN := t8
    replace tb := tb.ext x8
    replace ee := ee.trans x8
    replace h0 := h0.ext x8
    replace h1 := h1.ext x8
    replace h2 := h2.ext x8
    replace h3 := h3.ext x8
    replace b6 := b6.ext x8
    replace b7 := b7.ext x8
    refine two_call (E := E0) (g := fun a b => a || b) T3 tb tN b7.lm b8.lm fun H9 v9 x9 t9 b9 => ?_
    replace tN := t9
    replace tb := tb.ext x9
    replace ee := ee.trans x9
    replace h0 := h0.ext x9
    replace h1 := h1.ext x9
    replace h2 := h2.ext x9
    replace h3 := h3.ext x9
    replace b6 := b6.ext x9
    refine ne_call T3 b6 b9 (by decide +kernel) ?_
    refine ⟨false, rfl, ?_⟩
    refine ite2 (fun z => absurd z Bool.false_ne_true) (fun _ => ?_)
    refine ⟨_, rfl, _, rfl, _, rfl, two_call (E := E0) (g := fun a b => a || b) T3 tb tN h1 h2 fun H10 v10 x10 t10 b10 => ?_⟩
    replace tN := t10
    replace tb := tb.ext x10
    replace ee := ee.trans x10
    replace h0 := h0.ext x10
    replace h1 := h1.ext x10
    replace h2 := h2.ext x10
    replace h3 := h3.ext x10
    refine two_call (E := E0) (g := fun a b => a && !b) T3 tb tN h0 b10.lm fun H11 v11 x11 t11 b11 => ?_
    replace tN := t11
    replace tb := tb.ext x11
    replace ee := ee.trans x11
    replace h0 := h0.ext x11
    replace h1 := h1.ext x11
    replace h2 := h2.ext x11
    replace h3 := h3.ext x11
    refine ⟨_, rfl, _, rfl, two_call (E := E0) (g := fun a b => a && !b) T3 tb tN h0 h1 fun H12 v12 x12 t12 b12 => ?_⟩
    replace tN := t12
    replace tb := tb.ext x12
    replace ee := ee.trans x12
    replace h0 := h0.ext x12
    replace h1 := h1.ext x12
    replace h2 := h2.ext x12
    replace h3 := h3.ext x12
    replace b11 := b11.ext x12
    refine ⟨_, rfl, _, rfl, two_call (E := E0) (g := fun a b => a && !b) T3 tb tN h0 h2 fun H13 v13 x13 t13 b13 => ?_⟩
    replace tN := t13
    replace tb := tb.ext x13
    replace ee := ee.trans x13
    replace h0 := h0.ext x13
    replace h1 := h1.ext x13
    replace h2 := h2.ext x13
    replace h3 := h3.ext x13
    replace b11 := b11.ext x13
    replace b12 := b12.ext x13
    refine two_call (E := E0) (g := fun a b => a && b) T3 tb tN b12.lm b13.lm fun H14 v14 x14 t14 b14 => ?_
    replace tN := t14
    replace tb := tb.ext x14
    replace ee := ee.trans x14
    replace h0 := h0.ext x14
    replace h1 := h1.ext x14
    replace h2 := h2.ext x14
    replace h3 := h3.ext x14
    replace b11 := b11.ext x14
    refine ne_call T3 b11 b14 (by decide +kernel) ?_
    refine ⟨false, rfl, ?_⟩
    refine ite2 (fun z => absurd z Bool.false_ne_true) (fun _ => ?_)
    refine ⟨_, rfl, _, rfl, _, rfl, two_call (E := E0) (g := fun a b => a && b) T3 tb tN h0 h1 fun H15 v15 x15 t15 b15 => ?_⟩
    replace tN := t15
    replace tb := tb.ext x15
    replace ee := ee.trans x15
    replace h0 := h0.ext x15
    replace h1 := h1.ext x15
    replace h2 := h2.ext x15
    replace h3 := h3.ext x15
    refine two_call (E := E0) (g := fun a b => a && !b) T3 tb tN h3 b15.lm fun H16 v16 x16 t16 b16 => ?_
    replace tN := t16
    replace tb := tb.ext x16
    replace ee := ee.trans x16
    replace h0 := h0.ext x16
    replace h1 := h1.ext x16
    replace h2 := h2.ext x16
    replace h3 := h3.ext x16
    refine ⟨_, rfl, _, rfl, two_call (E := E0) (g := fun a b => a && !b) T3 tb tN h3 h0 fun H17 v17 x17 t17 b17 => ?_⟩
    replace tN := t17
    replace tb := tb.ext x17
    replace ee := ee.trans x17
    replace h0 := h0.ext x17
    replace h1 := h1.ext x17
    replace h2 := h2.ext x17
    replace h3 := h3.ext x17
    replace b16 := b16.ext x17
    refine ⟨_, rfl, _, rfl, two_call (E := E0) (g := fun a b => a && !b) T3 tb tN h3 h1 fun H18 v18 x18 t18 b18 => ?_⟩
    replace tN := t18
    replace tb := tb.ext x18
    replace ee := ee.trans x18
    replace h0 := h0.ext x18
    replace h1 := h1.ext x18
    replace h2 := h2.ext x18
    replace h3 := h3.ext x18
    replace b16 := b16.ext x18
    replace b17 := b17.ext x18
    refine two_call (E := E0) (g := fun a b => a || b) T3 tb tN b17.lm b18.lm fun H19 v19 x19 t19 b19 => ?_
    replace tN := t19
    replace tb := tb.ext x19
    replace ee := ee.trans x19
    replace h0 := h0.ext x19
    replace h1 := h1.ext x19
    replace h2 := h2.ext x19
    replace h3 := h3.ext x19
    replace b16 := b16.ext x19
    refine ne_call T3 b16 b19 (by decide +kernel) ?_
    refine ⟨false, rfl, ?_⟩
    refine ite2 (fun z => absurd z Bool.false_ne_true) (fun _ => ?_)
    refine ⟨_, rfl, _, rfl, _, rfl, two_call (E := E0) (g := fun a b => a && !b) T3 tb tN h3 h0 fun H20 v20 x20 t20 b20 => ?_⟩
    replace tN := t20
    replace tb := tb.ext x20
    replace ee := ee.trans x20
    replace h0 := h0.ext x20
    replace h1 := h1.ext x20
    replace h2 := h2.ext x20
    replace h3 := h3.ext x20
    refine two_call (E := E0) (g := fun a b => a && !b) T3 tb tN h3 b20.lm fun H21 v21 x21 t21 b21 => ?_
    replace tN := t21
    replace tb := tb.ext x21
    replace ee := ee.trans x21
    replace h0 := h0.ext x21
    replace h1 := h1.ext x21
    replace h2 := h2.ext x21
    replace h3 := h3.ext x21
    refine ⟨_, rfl, small_call (E := E0) T3 tb h0 fun H22 v22 s22 b22 => ?_⟩
    have x22 := ExtN.of s22
    replace tN := tN.ext s22
    replace tb := tb.ext x22
    replace ee := ee.trans x22
    replace h0 := h0.ext x22
    replace h1 := h1.ext x22
    replace h2 := h2.ext x22
    replace h3 := h3.ext x22
    replace b21 := b21.ext x22
    refine ne_call T3 b21 b22 (by decide +kernel) ?_
    refine ⟨false, rfl, ?_⟩
    refine ⟨_, rfl, _, rfl, two_call (E := E0) (g := fun a b => a && b) T3 tb tN h0 h3 fun H23 v23 x23 t23 b23 => ?_⟩
    replace tN := t23
    replace tb := tb.ext x23
    replace ee := ee.trans x23
    replace h0 := h0.ext x23
    replace h1 := h1.ext x23
    replace h2 := h2.ext x23
    replace h3 := h3.ext x23
    refine ⟨_, rfl, small_call (E := E0) T3 tb h0 fun H24 v24 s24 b24 => ?_⟩
    have x24 := ExtN.of s24
    replace tN := tN.ext s24
    replace tb := tb.ext x24
    replace ee := ee.trans x24
    replace h0 := h0.ext x24
    replace h1 := h1.ext x24
    replace h2 := h2.ext x24
    replace h3 := h3.ext x24
    replace b23 := b23.ext x24
    refine ne_call T3 b23 b24 (by decide +kernel) ?_
    refine ⟨false, rfl, ?_⟩
    refine ite2 (fun z => absurd z Bool.false_ne_true) (fun _ => ?_)
    refine ⟨_, rfl, _, rfl, two_call (E := E0) (g := fun a b => a && !b) T3 tb tN h0 h1 fun H25 v25 x25 t25 b25 => ?_⟩
    replace tN := t25
    replace tb := tb.ext x25
    replace ee := ee.trans x25
    replace h0 := h0.ext x25
    replace h1 := h1.ext x25
    replace h2 := h2.ext x25
    replace h3 := h3.ext x25
    refine ⟨_, rfl, _, rfl, two_call (E := E0) (g := fun a b => a && b) T3 tb tN h0 h1 fun H26 v26 x26 t26 b26 => ?_⟩
    replace tN := t26
    replace tb := tb.ext x26
    replace ee := ee.trans x26
    replace h0 := h0.ext x26
    replace h1 := h1.ext x26
    replace h2 := h2.ext x26
    replace h3 := h3.ext x26
    replace b25 := b25.ext x26
    refine two_call (E := E0) (g := fun a b => a || b) T3 tb tN b25.lm b26.lm fun H27 v27 x27 t27 b27 => ?_
    replace tN := t27
    replace tb := tb.ext x27
    replace ee := ee.trans x27
    replace h0 := h0.ext x27
    replace h1 := h1.ext x27
    replace h2 := h2.ext x27
    replace h3 := h3.ext x27
    refine ⟨_, rfl, small_call (E := E0) T3 tb h0 fun H28 v28 s28 b28 => ?_⟩
    have x28 := ExtN.of s28
    replace tN := tN.ext s28
    replace tb := tb.ext x28
    replace ee := ee.trans x28
    replace h0 := h0.ext x28
    replace h1 := h1.ext x28
    replace h2 := h2.ext x28
    replace h3 := h3.ext x28
    replace b27 := b27.ext x28
    refine ne_call T3 b27 b28 (by decide +kernel) ?_
    refine ⟨false, rfl, ?_⟩
    refine ⟨_, rfl, _, rfl, two_call (E := E0) (g := fun a b => a && b) T3 tb tN h0 h0 fun H29 v29 x29 t29 b29 => ?_⟩
    replace tN := t29
    replace tb := tb.ext x29
    replace ee := ee.trans x29
    replace h0 := h0.ext x29
    replace h1 := h1.ext x29
    replace h2 := h2.ext x29
    replace h3 := h3.ext x29
    refine ⟨_, rfl, small_call (E := E0) T3 tb h0 fun H30 v30 s30 b30 => ?_⟩
    have x30 := ExtN.of s30
    replace tN := tN.ext s30
    replace tb := tb.ext x30
    replace ee := ee.trans x30
    replace h0 := h0.ext x30
    replace h1 := h1.ext x30
    replace h2 := h2.ext x30
    replace h3 := h3.ext x30
    replace b29 := b29.ext x30
    refine ne_call T3 b29 b30 (by decide +kernel) ?_
    refine ⟨false, rfl, ?_⟩
    refine ite2 (fun z => absurd z Bool.false_ne_true) (fun _ => ?_)
    refine ⟨_, rfl, _, rfl, two_call (E := E0) (g := fun a b => a && !b) T3 tb tN h0 h1 fun H31 v31 x31 t31 b31 => ?_⟩
    replace tN := t31
    replace tb := tb.ext x31
    replace ee := ee.trans x31
    replace h0 := h0.ext x31
    replace h1 := h1.ext x31
    replace h2 := h2.ext x31
    replace h3 := h3.ext x31
    refine ⟨_, rfl, _, rfl, _, rfl, two_call (E := E0) (g := fun a b => a && !b) T3 tb tN h3 h1 fun H32 v32 x32 t32 b32 => ?_⟩
    replace tN := t32
    replace tb := tb.ext x32
    replace ee := ee.trans x32
    replace h0 := h0.ext x32
    replace h1 := h1.ext x32
    replace h2 := h2.ext x32
    replace h3 := h3.ext x32
    replace b31 := b31.ext x32
    refine two_call (E := E0) (g := fun a b => a && b) T3 tb tN h0 b32.lm fun H33 v33 x33 t33 b33 => ?_
    replace tN := t33
    replace tb := tb.ext x33
    replace ee := ee.trans x33
    replace h0 := h0.ext x33
    replace h1 := h1.ext x33
    replace h2 := h2.ext x33
    replace h3 := h3.ext x33
    replace b31 := b31.ext x33
    refine eq_call T3 b31 b33 (by decide +kernel) ?_
    refine ⟨true, rfl, ?_⟩
    refine ⟨_, rfl, _, rfl, two_call (E := E0) (g := fun a b => a && !b) T3 tb tN h0 h0 fun H34 v34 x34 t34 b34 => ?_⟩
    replace tN := t34
    replace tb := tb.ext x34
    replace ee := ee.trans x34
    replace h0 := h0.ext x34
    replace h1 := h1.ext x34
    replace h2 := h2.ext x34
    replace h3 := h3.ext x34
    refine ⟨L, v34, B, rfl, T3.L1, T3.L3, b34.none (fun w => by show (p w && !p w) = false; cases p w <;> rfl), fun H35 s35 => ?_⟩
    have x35 := ExtN.of s35
    replace tN := tN.ext s35
    replace ee := ee.trans x35
    refine ⟨rfl, ?_⟩
    rw [show decide (V.int 0 = V.int 0) = true from decide_eq_true rfl]
    exact k _ ee tN

end
/-! ### counts add up -/
section
open NdefX LamX
theorem tab_keep {B : Addr → Prop} {P : Addr} {nm : Nat → Nat → Str} {H H' : Hp} (l : ∀ b, B b → ∃ xs, H b = some (.lst xs)) (k : Keep B H H') (t : TabN H P nm) : TabN H' P nm := by
  obtain ⟨ps, h1, h2, h3⟩ := t
  have off : ∀ {b : Addr} {o : HO}, H b = some o → (∀ xs, o ≠ .lst xs) → ¬ B b := fun e nl z => by
    obtain ⟨xs, h⟩ := l _ z
    rw [h] at e
    cases e
    exact nl xs rfl
  refine ⟨ps, k _ _ (off h1 (fun _ z => nomatch z)) h1, h2, fun pos cv hc => ?_⟩
  obtain ⟨c', e1, e2⟩ := h3 pos cv hc
  exact ⟨c', e1, k _ _ (off e2 (fun xs z => nomatch z)) e2⟩
theorem tabs_wr {TS : List NTab} {H : Hp} {tp : Addr} {xs : List V} {o : HO} (h : H tp = some (.lst xs)) (t : TabsN TS H) : TabsN TS (upd H tp o) := fun p hp =>
  tab_keep (B := fun b => b = tp) (fun b z => ⟨xs, by rw [z]; exact h⟩) (fun b o nb e => by rw [upd_ne nb]; exact e) (t p hp)
theorem ext_wr {H H' : Hp} {tp : Addr} {o : HO} (n : H tp = none) (x : ExtN H H') : ExtN H (upd H' tp o) := fun b u e nt => by
  rw [upd_ne (fun z => by rw [z, n] at e; cases e)]
  exact x b u e nt
theorem at_heap {Q : Hp → Prop} {A B : Hp} (e : A = B) (h : Q B) : Q A := e ▸ h
end
section
open NdefX LamX
variable {P : Program} {w : World} {K : PySem.W.Frag} {mg : Str → Option Value} {base : Heap}
theorem scCountsR : FnScope ["_law_one_here", "_law_other", "_law_length", "_law_sums"] ["_law_one_here", "_law_other", "_law_length"] (defScope sCountsR) := ⟨rfl, rfl, rfl, by decide +kernel, rfl, by decide +kernel, by decide +kernel⟩
def spCountsR (K : PySem.W.Frag) (TS : List NTab) : Sp := fun vs H Q _ => ∃ (L n : Nat) (p q r : List Nat → Bool) (B : Addr → Prop) (x y : V) (G G' : B4), vs = [x, y, .int (n : Int)] ∧ n < 1000 ∧ Tri L p q r ∧ TBx B H ∧ TabsN TS H ∧
  Lm B K H L p q r G x ∧ Lm B K H L p q r G' y ∧ ∀ H', ExtN H H' → TabsN TS H' → Q (.bl true) H'
theorem ok_countsR {f fBO fEI fLE fCN : Addr} {fd fdBO fdEI fdLE fdCN : FuncData} {cBO PBO cEI PEI cLE PLE : Addr} {TS : List NTab} (F : Fun K "_law_counts_right" "_law_counts_right" sCountsR f fd)
    (BO : FnOk P w K mg base CX0 6 fBO fdBO ["one", "other"] (spTwo K TS fun a b => a && b)) (FBO : FunT K "both" "both" sBoth fBO fdBO cBO PBO) (bBO : Binds K fdBO ["one", "other"] []) (gBO : mg "both" = some (.ref fBO)) (EI : FnOk P w K mg base CX0 6 fEI fdEI ["one", "other"] (spTwo K TS fun a b => a || b)) (FEI : FunT K "either" "either" sEither fEI fdEI cEI PEI) (bEI : Binds K fdEI ["one", "other"] []) (gEI : mg "either" = some (.ref fEI)) (LE : FnOk P w K mg base CX0 6 fLE fdLE ["one", "other"] (spTwo K TS fun a b => a && !b)) (FLE : FunT K "less" "less" sLess fLE fdLE cLE PLE) (bLE : Binds K fdLE ["one", "other"] []) (gLE : mg "less" = some (.ref fLE)) (CN : FnOk P w K mg base CX0 3 fCN fdCN ["machine", "length"] (spCount K)) (FCN : Fun K "count" "count" sCount fCN fdCN) (bCN : Binds K fdCN ["machine", "length"] []) (gCN : mg "count" = some (.ref fCN)) (T : Mg mg) : FnOk P w K mg base CX0 7 f fd ["_law_one_here", "_law_other", "_law_length"] (spCountsR K TS) := by
  refine F.ok scCountsR (fun vs H Q E h => ?_) (fun cdv A outer s H vs Q E hr h => ?_)
  · obtain ⟨L, n, p, q, r, B, x, y, G, G', rfl, _⟩ := h
    rfl
  · obtain ⟨L, n, p, q, r, B, x, y, G, G', rfl, n9, T3, tb, tN, h0, h1, k⟩ := h
    have ee := ExtN.refl H
    refine ⟨_, (pss_cons (ps_set (i := 3) scCountsR.nd rfl (.inl rfl) (pe_lstA (pa_cons (pe_op op_add (pe_call CN (hr.mono (by decide)) (by rfl) gCN FCN.kp bCN .nil pass0 (pa_cons (pe_call EI (hr.mono (by decide)) (by rfl) gEI FEI.kp bEI .nil pass0 (pa_cons (pv 0) (pa_cons (pv 1) pa_nil))) (pa_cons (pv 2) pa_nil))) (pe_call CN (hr.mono (by decide)) (by rfl) gCN FCN.kp bCN .nil pass0 (pa_cons (pe_call BO (hr.mono (by decide)) (by rfl) gBO FBO.kp bBO .nil pass0 (pa_cons (pv 0) (pa_cons (pv 1) pa_nil))) (pa_cons (pv 2) pa_nil)))) pa_nil)))
      (pss_cons (ps_expr (pe_bm PySem.F.plainAttrs_list PySem.F.slot_list_append PySem.F.type_list_append mt_append (pv 3) (pa_cons (pe_op op_add (pe_call CN (hr.mono (by decide)) (by rfl) gCN FCN.kp bCN .nil pass0 (pa_cons (pe_call LE (hr.mono (by decide)) (by rfl) gLE FLE.kp bLE .nil pass0 (pa_cons (pv 0) (pa_cons (pv 1) pa_nil))) (pa_cons (pv 2) pa_nil))) (pe_call CN (hr.mono (by decide)) (by rfl) gCN FCN.kp bCN .nil pass0 (pa_cons (pe_call BO (hr.mono (by decide)) (by rfl) gBO FBO.kp bBO .nil pass0 (pa_cons (pv 0) (pa_cons (pv 1) pa_nil))) (pa_cons (pv 2) pa_nil)))) pa_nil)))
      (pss_one (ps_ret (pe_cmpR (op_eqD hr.units) (pv 3) (pe_lstA (pa_cons (pe_op op_add (pe_call CN (hr.mono (by decide)) (by rfl) gCN FCN.kp bCN .nil pass0 (pa_cons (pv 0) (pa_cons (pv 2) pa_nil))) (pe_call CN (hr.mono (by decide)) (by rfl) gCN FCN.kp bCN .nil pass0 (pa_cons (pv 1) (pa_cons (pv 2) pa_nil)))) (pa_cons (pe_call CN (hr.mono (by decide)) (by rfl) gCN FCN.kp bCN .nil pass0 (pa_cons (pv 0) (pa_cons (pv 2) pa_nil))) pa_nil))) (nomark _)))))), ?_⟩
    refine ⟨_, rfl, _, rfl, two_call (E := E0) (g := fun a b => a || b) T3 tb tN h0 h1 fun H1 v1 x1 t1 b1 => ?_⟩
    replace tN := t1
    replace tb := tb.ext x1
    replace ee := ee.trans x1
    replace h0 := h0.ext x1
    replace h1 := h1.ext x1
    obtain ⟨rs2, es2, d2, m2, l2⟩ := b1.lm.to
    refine ⟨_, rfl, L, n, rs2, es2, v1, B, rfl, d2, m2, n9, fun H2 s2 => ?_⟩
    rw [l2]
    have x2 := ExtN.of s2
    replace tN := tN.ext s2
    replace tb := tb.ext x2
    replace ee := ee.trans x2
    replace h0 := h0.ext x2
    replace h1 := h1.ext x2
    refine ⟨_, rfl, _, rfl, two_call (E := E0) (g := fun a b => a && b) T3 tb tN h0 h1 fun H3 v3 x3 t3 b3 => ?_⟩
    replace tN := t3
    replace tb := tb.ext x3
    replace ee := ee.trans x3
    replace h0 := h0.ext x3
    replace h1 := h1.ext x3
    obtain ⟨rs4, es4, d4, m4, l4⟩ := b3.lm.to
    refine ⟨_, rfl, L, n, rs4, es4, v3, B, rfl, d4, m4, n9, fun H4 s4 => ?_⟩
    rw [l4]
    have x4 := ExtN.of s4
    replace tN := tN.ext s4
    replace tb := tb.ext x4
    replace ee := ee.trans x4
    replace h0 := h0.ext x4
    replace h1 := h1.ext x4
    refine ⟨_, _, rfl, rfl, by show 1 ≤ sizeLine; decide, fun tp H5 s5 tp0 ntp hS => ?_⟩
    have k0 := h0
    have k1 := h1
    have kb := tb
    have ee4 := ee
    have x5 := ExtN.of s5
    replace tN := tN.ext s5
    replace tb := tb.ext x5
    replace ee := ee.trans x5
    replace h0 := h0.ext x5
    replace h1 := h1.ext x5
    have ke := x5
    refine ⟨_, rfl, .inl ⟨rfl, _, SqL.of hS⟩, ?_⟩
    refine ⟨_, rfl, _, rfl, two_call (E := E0) (g := fun a b => a && !b) T3 tb tN h0 h1 fun H6 v6 x6 t6 b6 => ?_⟩
    replace tN := t6
    replace tb := tb.ext x6
    replace ee := ee.trans x6
    replace ke := ke.trans x6
    replace h0 := h0.ext x6
    replace h1 := h1.ext x6
    replace hS := lst_ext x6 hS
    obtain ⟨rs7, es7, d7, m7, l7⟩ := b6.lm.to
    refine ⟨_, rfl, L, n, rs7, es7, v6, B, rfl, d7, m7, n9, fun H7 s7 => ?_⟩
    rw [l7]
    have x7 := ExtN.of s7
    replace tN := tN.ext s7
    replace tb := tb.ext x7
    replace ee := ee.trans x7
    replace ke := ke.trans x7
    replace h0 := h0.ext x7
    replace h1 := h1.ext x7
    replace hS := lst_ext x7 hS
    refine ⟨_, rfl, _, rfl, two_call (E := E0) (g := fun a b => a && b) T3 tb tN h0 h1 fun H8 v8 x8 t8 b8 => ?_⟩
    replace tN := t8
    replace tb := tb.ext x8
    replace ee := ee.trans x8
    replace ke := ke.trans x8
    replace h0 := h0.ext x8
    replace h1 := h1.ext x8
    replace hS := lst_ext x8 hS
    obtain ⟨rs9, es9, d9, m9, l9⟩ := b8.lm.to
    refine ⟨_, rfl, L, n, rs9, es9, v8, B, rfl, d9, m9, n9, fun H9 s9 => ?_⟩
    rw [l9]
    have x9 := ExtN.of s9
    replace tN := tN.ext s9
    replace tb := tb.ext x9
    replace ee := ee.trans x9
    replace ke := ke.trans x9
    replace h0 := h0.ext x9
    replace h1 := h1.ext x9
    replace hS := lst_ext x9 hS
    refine ⟨_, _, rfl, rfl, tp, _, _, rfl, rfl, hS, small9 (by show 1 ≤ 1000000; decide), ?_⟩
    have xx := ext_wr (o := .lst [V.int (((cntP L (Lg L p q r fun a b c d => G a b c d || G' a b c d) n : Nat) : Int) + ((cntP L (Lg L p q r fun a b c d => G a b c d && G' a b c d) n : Nat) : Int)), V.int (((cntP L (Lg L p q r fun a b c d => G a b c d && ! G' a b c d) n : Nat) : Int) + ((cntP L (Lg L p q r fun a b c d => G a b c d && G' a b c d) n : Nat) : Int))]) tp0 ke
    replace tN := tabs_wr (o := .lst [V.int (((cntP L (Lg L p q r fun a b c d => G a b c d || G' a b c d) n : Nat) : Int) + ((cntP L (Lg L p q r fun a b c d => G a b c d && G' a b c d) n : Nat) : Int)), V.int (((cntP L (Lg L p q r fun a b c d => G a b c d && ! G' a b c d) n : Nat) : Int) + ((cntP L (Lg L p q r fun a b c d => G a b c d && G' a b c d) n : Nat) : Int))]) hS tN
    replace hS : (upd H9 tp (.lst [V.int (((cntP L (Lg L p q r fun a b c d => G a b c d || G' a b c d) n : Nat) : Int) + ((cntP L (Lg L p q r fun a b c d => G a b c d && G' a b c d) n : Nat) : Int)), V.int (((cntP L (Lg L p q r fun a b c d => G a b c d && ! G' a b c d) n : Nat) : Int) + ((cntP L (Lg L p q r fun a b c d => G a b c d && G' a b c d) n : Nat) : Int))])) tp = some (.lst [V.int (((cntP L (Lg L p q r fun a b c d => G a b c d || G' a b c d) n : Nat) : Int) + ((cntP L (Lg L p q r fun a b c d => G a b c d && G' a b c d) n : Nat) : Int)), V.int (((cntP L (Lg L p q r fun a b c d => G a b c d && ! G' a b c d) n : Nat) : Int) + ((cntP L (Lg L p q r fun a b c d => G a b c d && G' a b c d) n : Nat) : Int))]) := upd_same
    skip
    generalize hG : upd H9 tp (.lst [V.int (((cntP L (Lg L p q r fun a b c d => G a b c d || G' a b c d) n : Nat) : Int) + ((cntP L (Lg L p q r fun a b c d => G a b c d && G' a b c d) n : Nat) : Int)), V.int (((cntP L (Lg L p q r fun a b c d => G a b c d && ! G' a b c d) n : Nat) : Int) + ((cntP L (Lg L p q r fun a b c d => G a b c d && G' a b c d) n : Nat) : Int))]) = G10 at *
    refine at_heap hG ?_
    clear hG
    replace h0 := k0.ext xx
    replace h1 := k1.ext xx
    replace tb := kb.ext xx
    replace ee := ee4.trans xx
    have ke := ExtN.refl G10
    obtain ⟨rs11, es11, d11, m11, l11⟩ := h0.to
    refine ⟨_, rfl, _, rfl, _, rfl, L, n, rs11, es11, x, B, rfl, d11, m11, n9, fun H11 s11 => ?_⟩
    rw [l11]
    have x11 := ExtN.of s11
    replace tN := tN.ext s11
    replace tb := tb.ext x11
    replace ee := ee.trans x11
    replace ke := ke.trans x11
    replace h0 := h0.ext x11
    replace h1 := h1.ext x11
    replace hS := lst_ext x11 hS
    obtain ⟨rs12, es12, d12, m12, l12⟩ := h1.to
    refine ⟨_, rfl, _, rfl, L, n, rs12, es12, y, B, rfl, d12, m12, n9, fun H12 s12 => ?_⟩
    rw [l12]
    have x12 := ExtN.of s12
    replace tN := tN.ext s12
    replace tb := tb.ext x12
    replace ee := ee.trans x12
    replace ke := ke.trans x12
    replace h0 := h0.ext x12
    replace h1 := h1.ext x12
    replace hS := lst_ext x12 hS
    refine ⟨_, _, rfl, rfl, ?_⟩
    obtain ⟨rs13, es13, d13, m13, l13⟩ := h0.to
    refine ⟨_, rfl, _, rfl, L, n, rs13, es13, x, B, rfl, d13, m13, n9, fun H13 s13 => ?_⟩
    rw [l13]
    have x13 := ExtN.of s13
    replace tN := tN.ext s13
    replace tb := tb.ext x13
    replace ee := ee.trans x13
    replace ke := ke.trans x13
    replace h0 := h0.ext x13
    replace h1 := h1.ext x13
    replace hS := lst_ext x13 hS
    refine ⟨by show 2 ≤ sizeLine; decide, fun qp H14 s14 q0 nq hQ => ?_⟩
    have x14 := ExtN.of s14
    replace tN := tN.ext s14
    replace tb := tb.ext x14
    replace ee := ee.trans x14
    replace ke := ke.trans x14
    replace hS := lst_ext x14 hS
    have e1 : ((cntP L (Lg L p q r fun a b c d => G a b c d || G' a b c d) n : Nat) : Int) + ((cntP L (Lg L p q r fun a b c d => G a b c d && G' a b c d) n : Nat) : Int) = ((cntP L (Lg L p q r G) n : Nat) : Int) + ((cntP L (Lg L p q r G') n : Nat) : Int) := by
      rw [← Int.natCast_add, ← Int.natCast_add]
      refine congrArg _ (cnt_add (fun w => ?_) n)
      show b2n (Lg L p q r G w || Lg L p q r G' w) + b2n (Lg L p q r G w && Lg L p q r G' w) = _
      generalize Lg L p q r G w = a
      generalize Lg L p q r G' w = b
      cases a <;> cases b <;> rfl
    have e2 : ((cntP L (Lg L p q r fun a b c d => G a b c d && !G' a b c d) n : Nat) : Int) + ((cntP L (Lg L p q r fun a b c d => G a b c d && G' a b c d) n : Nat) : Int) = ((cntP L (Lg L p q r G) n : Nat) : Int) := by
      rw [← Int.natCast_add]
      refine congrArg _ ?_
      have := cnt_add (L := L) (p := Lg L p q r fun a b c d => G a b c d && !G' a b c d) (q := Lg L p q r fun a b c d => G a b c d && G' a b c d) (a := Lg L p q r G) (b := fun _ => false) (fun w => ?_) n
      · rw [this]
        have z : cntP L (fun _ => false) n = 0 := by
          rcases Nat.eq_zero_or_pos (cntP L (fun _ => false) n) with z | z
          · exact z
          · obtain ⟨w, _, _, h⟩ := cnt_pos.mp z
            cases h
        rw [z, Nat.add_zero]
      · show b2n (Lg L p q r G w && !Lg L p q r G' w) + b2n (Lg L p q r G w && Lg L p q r G' w) = b2n (Lg L p q r G w) + 0
        generalize Lg L p q r G w = a
        generalize Lg L p q r G' w = b
        cases a <;> cases b <;> rfl
    rw [e1, e2] at hS
    refine ⟨.list [.int _, .int _], .list [.int _, .int _], .lst (SqL.of hS) (.cons (.int _) (.cons (.int _) .nil)), .lst (SqL.of hQ) (.cons (.int _) (.cons (.int _) .nil)), ?_, ?_, ?_⟩
    · rfl
    · rfl
    · rw [PySem.SeqAt.eqv_refl _ (by rfl)]
      exact k _ ee tN
end
/-! ### words that are of just one -/
theorem sl_len : ∀ {a b : List Nat}, Sl a b → a.length ≤ b.length
  | [], _, _ => Nat.zero_le _
  | _ :: _, [], h => by cases h
  | x :: a, y :: b, h => by
    rcases h with h | ⟨h, _⟩
    · exact Nat.succ_le_succ (sl_len h)
    · rw [h]; exact Nat.le_refl _
theorem strOk_wS {L : Nat} {w : List Nat} (L3 : L ≤ 3) (h : Wl L w) : PyData.strOk (wS w) = true := by
  unfold PyData.strOk wS mkS
  rw [Array.all_eq_true]
  intro i hi
  have hi : i < ((w.map (97 + ·)).toArray).size := hi
  show decide (((w.map (97 + ·)).toArray)[i] < 0x110000) = true
  rw [List.getElem_toArray, List.getElem_map]
  rw [List.size_toArray, List.length_map] at hi
  have := h w[i] (List.getElem_mem hi)
  exact decide_eq_true (by omega)
section
open NdefX LamX
variable {P : Program} {w : World} {K : PySem.W.Frag} {mg : Str → Option Value} {base : Heap}
theorem scApartR : FnScope ["_law_one_here", "_law_other", "_law_word", "_law_unlike", "_law_length"] ["_law_one_here", "_law_other"] (defScope sApartR) := ⟨rfl, rfl, rfl, by decide +kernel, rfl, by decide +kernel, by decide +kernel⟩
def spApartR (K : PySem.W.Frag) (TS : List NTab) : Sp := fun vs H Q _ => ∃ (L : Nat) (p q r : List Nat → Bool) (B : Addr → Prop) (x y : V) (G G' : B4), vs = [x, y] ∧ Tri L p q r ∧ TBx B H ∧ TabsN TS H ∧
  Lm B K H L p q r G x ∧ Lm B K H L p q r G' y ∧ ∀ H', ExtN H H' → TabsN TS H' → Q (.bl true) H'
theorem ok_apartR {f fEI fLE fSM fSZ fCN fAP fIO fTO : Addr} {fd fdEI fdLE fdSM fdSZ fdCN fdAP fdIO fdTO : FuncData} {cEI PEI cLE PLE cAP PAP : Addr} {TS : List NTab} (F : Fun K "_law_apart_right" "_law_apart_right" sApartR f fd)
    (EI : FnOk P w K mg base CX0 6 fEI fdEI ["one", "other"] (spTwo K TS fun a b => a || b)) (FEI : FunT K "either" "either" sEither fEI fdEI cEI PEI) (bEI : Binds K fdEI ["one", "other"] []) (gEI : mg "either" = some (.ref fEI)) (LE : FnOk P w K mg base CX0 6 fLE fdLE ["one", "other"] (spTwo K TS fun a b => a && !b)) (FLE : FunT K "less" "less" sLess fLE fdLE cLE PLE) (bLE : Binds K fdLE ["one", "other"] []) (gLE : mg "less" = some (.ref fLE)) (SM : FnOk P w K mg base CX0 5 fSM fdSM ["machine"] (spSmallest K)) (FSM : Fun K "smallest" "smallest" sSmallest fSM fdSM) (bSM : Binds K fdSM ["machine"] []) (gSM : mg "smallest" = some (.ref fSM)) (SZ : FnOk P w K mg base CX0 3 fSZ fdSZ ["machine"] (spSize0 K)) (FSZ : Fun K "size" "size" sSize fSZ fdSZ) (bSZ : Binds K fdSZ ["machine"] []) (gSZ : mg "size" = some (.ref fSZ)) (CN : FnOk P w K mg base CX0 3 fCN fdCN ["machine", "length"] (spCount K)) (FCN : Fun K "count" "count" sCount fCN fdCN) (bCN : Binds K fdCN ["machine", "length"] []) (gCN : mg "count" = some (.ref fCN)) (AP : FnOk P w K mg base CX0 3 fAP fdAP ["one", "other"] (spApartP K TS)) (FAP : FunT K "apart" "apart" sApartP fAP fdAP cAP PAP) (bAP : Binds K fdAP ["one", "other"] []) (gAP : mg "apart" = some (.ref fAP)) (IO : FnOk P w K mg base CX0 1 fIO fdIO ["machine", "word"] (spIsOf K)) (FIO : Fun K "is_of" "is_of" sIsOf fIO fdIO) (bIO : Binds K fdIO ["machine", "word"] []) (gIO : mg "is_of" = some (.ref fIO)) (TO : FnOk P w K mg base CX0 2 fTO fdTO ["machine", "length", "most"] (spTold K)) (FTO : Fun K "told" "told" sTold fTO fdTO) (bTO : Binds K fdTO ["machine", "length", "most"] []) (gTO : mg "told" = some (.ref fTO)) (T : Mg mg) : FnOk P w K mg base CX0 7 f fd ["_law_one_here", "_law_other"] (spApartR K TS) := by
  refine F.ok scApartR (fun vs H Q E h => ?_) (fun cdv A outer s H vs Q E hr h => ?_)
  · obtain ⟨L, p, q, r, B, x, y, G, G', rfl, _⟩ := h
    rfl
  · obtain ⟨L, p, q, r, B, x, y, G, G', rfl, T3, tb, tN, h0, h1, k⟩ := h
    have ee := ExtN.refl H
    have hu0 := Nat.lt_of_le_of_lt (Nat.le_add_right _ 64) hr.units
    refine ⟨_, (pss_cons (ps_set (i := 2) scApartR.nd rfl (.inl rfl) (pe_call AP (hr.mono (by decide)) (by rfl) gAP FAP.kp bAP .nil pass0 (pa_cons (pv 0) (pa_cons (pv 1) pa_nil))))
      (pss_cons (ps_if (PW.pt (pw_or (pt_cmpR op_ne (pe_cmp (pc_isN (pv 2))) (pe_cmpR (op_eqD hr.units) (pe_call SM (hr.mono (by decide)) (by rfl) gSM FSM.kp bSM .nil pass0 (pa_cons (pv 0) pa_nil)) (pe_call SM (hr.mono (by decide)) (by rfl) gSM FSM.kp bSM .nil pass0 (pa_cons (pv 1) pa_nil)) (nomark _)) (nomark _)) (pw_or1 (pt_cmpR op_ne (pv 2) (pe_call AP (hr.mono (by decide)) (by rfl) gAP FAP.kp bAP .nil pass0 (pa_cons (pv 1) (pa_cons (pv 0) pa_nil))) (nomark _))))) (pss_one (ps_ret pe_bl)) pss_nil)
      (pss_cons (ps_if (pt_cmp (pc_isN (pv 2))) (pss_one (ps_ret (pe_and (pe_cmpR op_eq (pe_call SZ (hr.mono (by decide)) (by rfl) gSZ FSZ.kp bSZ .nil pass0 (pa_cons (pe_call LE (hr.mono (by decide)) (by rfl) gLE FLE.kp bLE .nil pass0 (pa_cons (pv 0) (pa_cons (pv 1) pa_nil))) pa_nil)) pe_int (nomark _)) (pe_one (pe_cmpR op_eq (pe_call SZ (hr.mono (by decide)) (by rfl) gSZ FSZ.kp bSZ .nil pass0 (pa_cons (pe_call LE (hr.mono (by decide)) (by rfl) gLE FLE.kp bLE .nil pass0 (pa_cons (pv 1) (pa_cons (pv 0) pa_nil))) pa_nil)) pe_int (nomark _)))))) pss_nil)
      (pss_cons (ps_set (i := 3) scApartR.nd rfl (.inr rfl) (pe_call EI (hr.mono (by decide)) (by rfl) gEI FEI.kp bEI .nil pass0 (pa_cons (pe_call LE (hr.mono (by decide)) (by rfl) gLE FLE.kp bLE .nil pass0 (pa_cons (pv 0) (pa_cons (pv 1) pa_nil))) (pa_cons (pe_call LE (hr.mono (by decide)) (by rfl) gLE FLE.kp bLE .nil pass0 (pa_cons (pv 1) (pa_cons (pv 0) pa_nil))) pa_nil))))
      (pss_cons (ps_if (PW.pt (pw_or (pt_cmpR op_eq (pe_call IO (hr.mono (by decide)) (by rfl) gIO FIO.kp bIO .nil pass0 (pa_cons (pv 0) (pa_cons (pv 2) pa_nil))) (pe_call IO (hr.mono (by decide)) (by rfl) gIO FIO.kp bIO .nil pass0 (pa_cons (pv 1) (pa_cons (pv 2) pa_nil))) (nomark _)) (pw_or1 (pt_cmpR (op_neD hr.units) (pe_call TO (hr.mono (by decide)) (by rfl) gTO FTO.kp bTO .nil pass0 (pa_cons (pv 3) (pa_cons (pe_callB call_len_str (by rfl) T.len PySem.boot_len (pa_cons (pv 2) pa_nil)) (pa_cons pe_int pa_nil)))) (pe_tup (pa_cons (pv 2) pa_nil)) (nomark _))))) (pss_one (ps_ret pe_bl)) pss_nil)
      (pss_one (ps_ret (pe_cmpR (op_eqNilL hu0) (pe_lc (own := [("_law_length", 4)]) (g := gName 4) rfl scApartR.nd (pi_range1 (by rfl) T.range (pa_cons (pe_callB call_len_str (by rfl) T.len PySem.boot_len (pa_cons (pv 2) pa_nil)) pa_nil)) (blkOk_by (N := ["_law_one_here", "_law_other", "_law_word", "_law_unlike", "_law_length"]) (sc := defScope sApartR) (by decide +kernel)) (fun _ _ _ _ _ => pg_name (i := 4) scApartR.nd rfl (Or.inl rfl)) (fun _ _ _ _ _ => pts_one (pt_cmpR op_gt (pe_call CN (hr.mono (by decide)) (by rfl) gCN FCN.kp bCN .nil pass0 (pa_cons (pv 3) (pa_cons (pv 4) pa_nil))) pe_int (nomark _))) (fun _ _ _ _ _ => (pv 4))) (pe_lstA pa_nil) (nomark _))))))))), ?_⟩
    obtain ⟨r1, e1, d1, m1, l1⟩ := id h0
    obtain ⟨r2, e2, d2, m2, l2⟩ := id h1
    refine ⟨_, rfl, _, rfl, L, r1, r2, e1, e2, x, y, B, B, rfl, d1, d2, m1, m2, tN, fun H1 o x1 t1 fo => ?_⟩
    have F0 : First (fun u => Lg L p q r G u.reverse ≠ Lg L p q r G' u.reverse) L o := fo.imp fun u hu => by
      rw [unl_iff m1 m2 hu, l1, l2]
    replace tN := t1
    replace tb := tb.ext x1
    replace ee := ee.trans x1
    replace h0 := h0.ext x1
    replace h1 := h1.ext x1
    refine ⟨_, rfl, ?_⟩
    refine ⟨_, rfl, small_call (E := E0) T3 tb h0 fun H2 v2 s2 b2 => ?_⟩
    have x2 := ExtN.of s2
    replace tN := tN.ext s2
    replace tb := tb.ext x2
    replace ee := ee.trans x2
    replace h0 := h0.ext x2
    replace h1 := h1.ext x2
    refine ⟨_, rfl, small_call (E := E0) T3 tb h1 fun H3 v3 s3 b3 => ?_⟩
    have x3 := ExtN.of s3
    replace tN := tN.ext s3
    replace tb := tb.ext x3
    replace ee := ee.trans x3
    replace h0 := h0.ext x3
    replace h1 := h1.ext x3
    replace b2 := b2.ext x3
    obtain ⟨f1, g1, D1, M1, B1⟩ := b2
    obtain ⟨f2, g2, D2, M2, B2⟩ := b3
    refine ⟨_, _, mach_dp D1, mach_dp D2, mach_shaped, mach_shaped, ?_⟩
    have off1 : ∀ w, Lg L p q r G w = true → Wl L w := fun w h => acc_wide m1.row (by rw [l1]; exact h)
    have off2 : ∀ w, Lg L p q r G' w = true → Wl L w := fun w h => acc_wide m2.row (by rw [l2]; exact h)
    have lw : o = none → ∀ w, Lg L p q r G' w = Lg L p q r G w := fun on w => by
      subst on
      have both : Lg L p q r G w = true ∨ Lg L p q r G' w = true → Lg L p q r G w = Lg L p q r G' w := fun h => by
        have wl : Wl L w := by
          rcases h with h | h
          · exact off1 w h
          · exact off2 w h
        have := F0 w.reverse fun c hc => wl c (List.mem_reverse.mp hc)
        have this : ¬ (Lg L p q r G w.reverse.reverse ≠ Lg L p q r G' w.reverse.reverse) := this
        rw [List.reverse_reverse] at this
        exact Classical.not_not.mp this
      cases e1 : Lg L p q r G w with
      | true => rw [← both (.inl e1), e1]
      | false =>
        cases e2 : Lg L p q r G' w with
        | true => rw [both (.inr e2), e2] at e1; exact e1
        | false => rfl
    have ek : PyData.eqv (machDt L f1 g1) (machDt L f2 g2) = decide (txO o = V.non) := by
      cases o with
      | none =>
        have lw := lw rfl
        obtain ⟨rfl, rfl⟩ := B1.eq (B2.congr lw)
        rw [mach_refl]
        rfl
      | some u =>
        cases e : PyData.eqv (machDt L f1 g1) (machDt L f2 g2) with
        | false => rfl
        | true =>
          obtain ⟨rfl, rfl⟩ := mach_eqv e
          exact absurd ((B1.acc u.reverse).symm.trans (B2.acc u.reverse)) F0.2.1
    rw [ek]
    have ez : ∀ z : Bool, (!decide (V.bl z = V.bl z)) = false := fun z => by rw [decide_eq_true rfl]; rfl
    refine ⟨rfl, ?_⟩
    rw [ez]
    refine ⟨false, rfl, ?_⟩
    refine ite2 (fun z => absurd z Bool.false_ne_true) (fun _ => ?_)
    refine ⟨_, rfl, _, rfl, _, rfl, L, r2, r1, e2, e1, y, x, B, B, rfl, Dt.extN ee _ _ d2, Dt.extN ee _ _ d1, m2, m1, tN, fun H4 o' x4 t4 fo' => ?_⟩
    obtain rfl : o' = o := first_eq (fo'.imp fun u hu => by rw [unl_iff m2 m1 hu, l1, l2]; exact ⟨fun z e => z e.symm, fun z e => z e.symm⟩ : First (fun u => Lg L p q r G u.reverse ≠ Lg L p q r G' u.reverse) L o') F0
    refine ⟨by cases o' <;> rfl, ?_⟩
    rw [show (!decide (txO o' = txO o')) = false by rw [decide_eq_true rfl]; rfl]
    refine ⟨false, rfl, ?_⟩
    refine ite2 (fun z => absurd z Bool.false_ne_true) (fun _ => ?_)
    replace tN := t4
    replace tb := tb.ext x4
    replace ee := ee.trans x4
    replace h0 := h0.ext x4
    replace h1 := h1.ext x4
    cases o' with
    | none =>
      have lw := lw rfl
      refine ⟨_, rfl, _, rfl, ite2 (fun _ => ?_) (fun z => absurd (decide_eq_true rfl) z)⟩
      refine ⟨_, rfl, _, rfl, two_call (E := E0) (g := fun a b => a && !b) T3 tb tN h0 h1 fun H5 v5 x5 t5 b5 => ?_⟩
      replace tN := t5
      replace tb := tb.ext x5
      replace ee := ee.trans x5
      replace h0 := h0.ext x5
      replace h1 := h1.ext x5
      refine ⟨L, v5, B, rfl, T3.L1, T3.L3, b5.none (fun w => by show (Lg L p q r G w && !Lg L p q r G' w) = false; rw [lw]; cases Lg L p q r G w <;> rfl), fun H6 s6 => ?_⟩
      have x6 := ExtN.of s6
      replace tN := tN.ext s6
      replace tb := tb.ext x6
      replace ee := ee.trans x6
      replace h0 := h0.ext x6
      replace h1 := h1.ext x6
      refine ⟨rfl, ?_⟩
      rw [show decide (V.int 0 = V.int 0) = true from decide_eq_true rfl]
      refine ⟨true, rfl, ?_⟩
      refine ⟨_, rfl, _, rfl, two_call (E := E0) (g := fun a b => a && !b) T3 tb tN h1 h0 fun H7 v7 x7 t7 b7 => ?_⟩
      replace tN := t7
      replace tb := tb.ext x7
      replace ee := ee.trans x7
      replace h0 := h0.ext x7
      replace h1 := h1.ext x7
      refine ⟨L, v7, B, rfl, T3.L1, T3.L3, b7.none (fun w => by show (Lg L p q r G' w && !Lg L p q r G w) = false; rw [lw]; cases Lg L p q r G w <;> rfl), fun H8 s8 => ?_⟩
      have x8 := ExtN.of s8
      replace tN := tN.ext s8
      replace tb := tb.ext x8
      replace ee := ee.trans x8
      replace h0 := h0.ext x8
      replace h1 := h1.ext x8
      refine ⟨rfl, ?_⟩
      rw [show decide (V.int 0 = V.int 0) = true from decide_eq_true rfl]
      exact k _ ee tN
    | some u =>
      refine ⟨_, rfl, _, rfl, ite2 (fun z => ?_) (fun _ => ?_)⟩
      · cases of_decide_eq_true z
      refine ⟨_, rfl, _, rfl, two_call (E := E0) (g := fun a b => a && !b) T3 tb tN h0 h1 fun H9 v9 x9 t9 b9 => ?_⟩
      replace tN := t9
      replace tb := tb.ext x9
      replace ee := ee.trans x9
      replace h0 := h0.ext x9
      replace h1 := h1.ext x9
      refine ⟨_, rfl, _, rfl, two_call (E := E0) (g := fun a b => a && !b) T3 tb tN h1 h0 fun H10 v10 x10 t10 b10 => ?_⟩
      replace tN := t10
      replace tb := tb.ext x10
      replace ee := ee.trans x10
      replace h0 := h0.ext x10
      replace h1 := h1.ext x10
      replace b9 := b9.ext x10
      refine two_call (E := E0) (g := fun a b => a || b) T3 tb tN b9.lm b10.lm fun H11 v11 x11 t11 b11 => ?_
      replace tN := t11
      replace tb := tb.ext x11
      replace ee := ee.trans x11
      replace h0 := h0.ext x11
      replace h1 := h1.ext x11
      have wl : Wl L u.reverse := fun c hc => F0.1 c (List.mem_reverse.mp hc)
      have F1 : Lg L p q r G u.reverse ≠ Lg L p q r G' u.reverse := F0.2.1
      have tx : txR u = wS u.reverse := rfl
      refine ⟨_, rfl, _, rfl, B, x, L, r1, e1, u.reverse, rfl, Dt.extN ee _ _ d1, m1, wl, ?_⟩
      refine ⟨_, rfl, _, rfl, B, y, L, r2, e2, u.reverse, rfl, Dt.extN ee _ _ d2, m2, wl, ?_⟩
      rw [l1, l2]
      refine ⟨rfl, ?_⟩
      rw [show decide (V.bl (Lg L p q r G u.reverse) = V.bl (Lg L p q r G' u.reverse)) = false from decide_eq_false (fun z => F1 (V.bl.inj z))]
      refine ⟨false, rfl, ?_⟩
      refine ite2 (fun z => absurd z Bool.false_ne_true) (fun _ => ?_)
      obtain ⟨r3, e3, d3, m3, B3⟩ := id b11
      have un : ∀ w, Lg L p q r (fun a b c d => (G a b c d && !G' a b c d) || (G' a b c d && !G a b c d)) w = true ↔ Lg L p q r G w ≠ Lg L p q r G' w := fun w => by
        show ((Lg L p q r G w && !Lg L p q r G' w) || (Lg L p q r G' w && !Lg L p q r G w)) = true ↔ _
        generalize Lg L p q r G w = a
        generalize Lg L p q r G' w = b
        cases a <;> cases b <;> decide
      have FB : First (fun u => Lg L p q r (fun a b c d => (G a b c d && !G' a b c d) || (G' a b c d && !G a b c d)) u.reverse = true) L (some u) := F0.imp fun u _ => (un u.reverse).symm
      have ul := first_short FB (T3.wcls _)
      have acU : acc r3 e3 u.reverse 0 = true := (B3.acc _).trans FB.2.1
      have lu : (txR u).length = u.length := by
        have := wS_len u.reverse
        rw [List.length_reverse] at this
        exact this
      refine ⟨_, rfl, _, rfl, _, rfl, by rw [lu]; exact Nat.le_trans (show u.length ≤ 1000 by omega) (by decide), ?_⟩
      refine ⟨L, u.length, r3, e3, v11, B, by rw [lu]; rfl, d3, m3, by omega, ⟨u.reverse, List.length_reverse .., acU⟩, fun H12 tp w st12 s12 lh tp0 htp => ?_⟩
      have ew : w = u.reverse := first_lx FB lh.wl lh.ln (by show Lg L p q r _ w.reverse.reverse = true; rw [List.reverse_reverse]; exact (B3.acc w).symm.trans ((acc_run w 0).mpr ⟨st12, lh.rn, by have := lh.ok; rw [Nat.sub_self] at this; exact this⟩)) fun v hv vl va => by
        have va : Lg L p q r _ v.reverse.reverse = true := va
        rw [List.reverse_reverse] at va
        have := lh.mn v hv vl ((B3.acc v).trans va)
        rw [List.take_of_length_le (Nat.le_of_eq vl)] at this
        exact this
      subst ew
      have x12 := ExtN.of s12
      replace tN := tN.ext s12
      replace tb := tb.ext x12
      replace ee := ee.trans x12
      replace h0 := h0.ext x12
      replace h1 := h1.ext x12
      replace b11 := b11.ext x12
      refine ⟨_, rfl, by show 1 ≤ sizeLine; decide, fun qp nqp => ?_⟩
      have s13 := same_new (o := .tup [txO (some u)]) nqp
      have hq : (upd H12 qp (.tup [txO (some u)])) qp = some (.tup [.str (wS u.reverse)]) := upd_same
      generalize upd H12 qp (.tup [txO (some u)]) = H13 at *
      have x13 := ExtN.of s13
      replace tN := tN.ext s13
      replace tb := tb.ext x13
      replace ee := ee.trans x13
      replace h0 := h0.ext x13
      replace h1 := h1.ext x13
      replace b11 := b11.ext x13
      have sh : SeqAt.shaped (.tuple [.str (wS u.reverse)]) = true := by
        refine Bool.and_eq_true_iff.mpr ⟨?_, decide_eq_true (by simp [PyData.depth, PyData.depthAll])⟩
        rw [PyData.canLay0, PyData.canLayAll0, PyData.canLayAll0, PyData.canLay0, strOk_wS T3.L3 wl]
        rfl
      refine ⟨.tuple [.str (wS u.reverse)], .tuple [.str (wS u.reverse)], .tup (SqT.of (s13 _ _ htp)) (.cons (.str _) .nil), .tup (SqT.of hq) (.cons (.str _) .nil), sh, sh, ?_⟩
      rw [PySem.SeqAt.eqv_refl _ (Bool.and_eq_true_iff.mp sh).1]
      refine ⟨false, rfl, ?_⟩
      refine ite2 (fun z => absurd z Bool.false_ne_true) (fun _ => ?_)
      refine ⟨_, rfl, _, rfl, by rw [lu]; exact Nat.le_trans (show u.length ≤ 1000 by omega) (by decide), ?_⟩
      rw [lu]
      refine ⟨(u.length : Int), rfl, by omega, by omega, fun D hD => ?_⟩
      have sD := same_new (o := .lst []) hD
      have zero : ∀ i, i < u.length → cntP L (fun w => acc r3 e3 w 0) i = 0 := fun i hi => by
        rcases Nat.eq_zero_or_pos (cntP L (fun w => acc r3 e3 w 0) i) with z | z
        · exact z
        · obtain ⟨w, hw, wn, wa⟩ := cnt_pos.mp z
          have hr' : Wl L w.reverse := fun c hc => hw c (List.mem_reverse.mp hc)
          have sl : Sl w.reverse u := by
            rcases sl_tri w.reverse u with q | q | q
            · exact q
            · rw [← q, List.length_reverse] at hi
              omega
            · have := sl_len q
              rw [List.length_reverse] at this
              omega
          have fb := FB.2.2 w.reverse hr' sl
          have fb : ¬ Lg L p q r _ w.reverse.reverse = true := fb
          rw [List.reverse_reverse] at fb
          exact absurd ((B3.acc w).symm.trans wa) fb
      refine lc_range (lo := 0) (n := ((u.length : Int)).toNat) (fun i H' => Same H13 H' ∧ H' D = some (.lst [])) ⟨sD, upd_same⟩ ?_ ?_
      · rintro i H' hi ⟨sm, hl⟩
        rw [Int.toNat_natCast] at hi
        have e0 : (0 : Int) + (i : Nat) = ((i : Nat) : Int) := Int.zero_add _
        rw [e0]
        refine ⟨rfl, _, rfl, _, rfl, L, i, r3, e3, v11, B, rfl, same_dt sm (Dt.extN x13 _ _ (Dt.extN x12 _ _ d3)), m3, by omega, fun H'' s' => ?_⟩
        rw [zero i hi]
        exact ⟨0, 0, rfl, rfl, false, rfl, sm.trans s', s' _ _ hl⟩
      · rintro H' ⟨sm, hl⟩
        refine ⟨by show 0 ≤ sizeLine; decide, fun lp H14 s14 lp0 nlp hlp => ⟨D, lp, [], rfl, rfl, SqL.of (s14 _ _ hl), SqL.of hlp, ?_⟩⟩
        exact k H14 (ee.trans (ExtN.of (sm.trans s14))) (tN.ext (sm.trans s14))
end
/-! ### the law -/
section
variable {B : Addr → Prop} {K : PySem.W.Frag} {H : Hp} {lo : Addr} {zs : List V}
theorem tup_ne {a : Addr} {xs : List V} (hl : H lo = some (.lst zs)) (h : Rd H a (.tup xs)) : a ≠ lo := fun e => by
  rw [e] at h
  rcases h with h | ⟨_, h⟩
  · rw [hl] at h
    cases h
  · rw [hl] at h
    cases h
theorem offL_rows (hl : H lo = some (.lst zs)) : ∀ (rs : Rows) (rvs : List V), DtAll B K H rvs (rs.map rowDt) → DtAll (fun b => B b ∨ b = lo) K H rvs (rs.map rowDt)
  | [], _, h => by
    cases h
    exact .nil
  | row :: rs, _, h => by
    cases h with
    | cons h1 h2 =>
      refine .cons ?_ (offL_rows hl rs _ h2)
      obtain ⟨q, xs, rfl, nb, hq, ha, _⟩ := h1.tup_rd
      rw [dt_sc o_sc ha] at hq
      exact .tup (fun z => by
        rcases z with z | z
        · exact nb z
        · exact tup_ne hl hq z) hq (dt_cs o_cs row)
/-- a machine does not hold a list: it stays where one is written -/
theorem offL_mach (hl : H lo = some (.lst zs)) {L : Nat} {rs : Rows} {es : List Bool} {v : V} (h : Dt B K H v (machDt L rs es)) : Dt (fun b => B b ∨ b = lo) K H v (machDt L rs es) := by
  obtain ⟨m, xs, rfl, nm, hm, ha, _⟩ := h.tup_rd
  cases ha with
  | cons h1 ha =>
    cases ha with
    | cons h2 ha =>
      cases ha with
      | cons h3 ha =>
        cases ha
        cases h1
        obtain ⟨pr, rvs, rfl, n2, hr, har, _⟩ := h2.tup_rd
        obtain ⟨pe, evs, rfl, n3, he, hae, _⟩ := h3.tup_rd
        have off : ∀ {q : Addr} {ys : List V}, ¬ B q → Rd H q (.tup ys) → ¬ (B q ∨ q = lo) := fun nb hq z => by
          rcases z with z | z
          · exact nb z
          · exact tup_ne hl hq z
        have ee := dt_sc b_sc hae
        rw [ee] at he
        exact .tup (off nm hm) hm (.cons (.int _) (.cons (.tup (off n2 hr) hr (offL_rows hl rs _ har)) (.cons (.tup (off n3 he) he (dt_cs (fun x => Dt.bl x) es)) .nil)))
theorem mach_wr (hl : H lo = some (.lst zs)) {L : Nat} {rs : Rows} {es : List Bool} {v : V} {o : HO} (h : Dt B K H v (machDt L rs es)) : Dt B K (upd H lo o) v (machDt L rs es) :=
  Dt.weak (fun b z => .inl z) _ _ (Dt.keep (keep_store (.inr rfl)) _ _ (offL_mach hl h))
end
theorem at_v {Q : V → Hp → Prop} {u v : V} {H : Hp} (e : u = v) (h : Q v H) : Q u H := e ▸ h
theorem acc_every {L : Nat} : ∀ w : List Nat, acc [List.replicate L (some 0)] [true] w 0 = evB L w
  | [] => rfl
  | c :: w => by
    by_cases h : c < L
    · have e : nx [List.replicate L (some 0)] 0 c = some 0 := by
        show (List.replicate L (some 0)).getD c none = some 0
        rw [List.getD_eq_getElem?_getD, List.getElem?_replicate, if_pos h]
        rfl
      rw [acc_cons e, acc_every w]
      unfold evB
      rw [List.all_cons, decide_eq_true h, Bool.true_and]
    · have e : nx [List.replicate L (some 0)] 0 c = none := by
        show (List.replicate L (some 0)).getD c none = none
        rw [List.getD_eq_getElem?_getD, List.getElem?_replicate, if_neg h]
        rfl
      rw [acc_none e]
      unfold evB
      rw [List.all_cons, decide_eq_false h, Bool.false_and]
theorem mok_every {L : Nat} (L1 : 1 ≤ L) (L3 : L ≤ 3) : MOk L [List.replicate L (some 0)] [true] := by
  refine ⟨Nat.le_refl _, by show 1 ≤ 400; decide, fun row hr => ?_, fun row hr t ht => ?_, rfl, L1, L3⟩
  · rw [List.mem_singleton.mp hr, List.length_replicate]
  · rw [List.mem_singleton.mp hr] at ht
    cases (List.mem_replicate.mp ht).2
    exact Nat.zero_lt_one
theorem tri_of {L : Nat} {r1 r2 r3 : Rows} {e1 e2 e3 : List Bool} (m1 : MOk L r1 e1) (m2 : MOk L r2 e2) (m3 : MOk L r3 e3) (n1 : r1.length ≤ 6) (n2 : r2.length ≤ 6) (n3 : r3.length ≤ 6) :
    Tri L (fun w => acc r1 e1 w 0) (fun w => acc r2 e2 w 0) (fun w => acc r3 e3 w 0) :=
  ⟨m1.L1, m1.L3, m1.wcls.mono (by omega), m2.wcls.mono (by omega), m3.wcls.mono (by omega), fun _ h => acc_wide m1.row h, fun _ h => acc_wide m2.row h, fun _ h => acc_wide m3.row h⟩
section
open NdefX LamX
theorem deck_tbx {a c : Addr} {cells : List Int} {n : Int} {H : Hp} (dk : DeckAt a c cells n H) : TBx (Bd a c) H := fun b z => by
  rcases z with z | z
  · exact ⟨_, by rw [z]; exact dk.2.1, fun ps e => by cases e⟩
  · exact ⟨_, by rw [z]; exact dk.2.2.1, fun ps e => by cases e⟩
theorem tabs_deck {TS : List NTab} {a c : Addr} {cells : List Int} {n : Int} {H H' : Hp} (dk : DeckAt a c cells n H) (k : Keep (Bd a c) H H') (t : TabsN TS H) : TabsN TS H' := fun p hp => tab_deck dk k (t p hp)
end
theorem alk_refl (G : B4) : Alk4 G G = true := by
  unfold Alk4
  refine List.all_eq_true.mpr fun a _ => List.all_eq_true.mpr fun b _ => List.all_eq_true.mpr fun c _ => List.all_eq_true.mpr fun d _ => ?_
  rw [beq_self_eq_true, Bool.or_true]

section
open NdefX LamX
variable {P : Program} {w : World} {K : PySem.W.Frag} {mg : Str → Option Value} {base : Heap}
theorem scLaw : FnScope ["_law_script", "_law_deck_here", "_law_turn", "_law_letters", "_law_one_here", "_law_other", "_law_third", "_law_k", "_law_every", "_law_own", "_law_length"] ["_law_script"] (defScope sLaw) := ⟨rfl, rfl, rfl, by decide +kernel, rfl, by decide +kernel, by decide +kernel⟩
def spLaw (K : PySem.W.Frag) (TS : List NTab) : Sp := fun vs H Q _ => ∃ (l : Addr) (ns : List Int), vs = [.ref l] ∧ SqL K H l (ns.map V.int) ∧ ns.length ≤ 63 ∧ TabsN TS H ∧ ∀ H', Q (.bl true) H'
theorem ok_law {f fBO fEI fLE fSM fDK fDR fMC fSE fCR fAR : Addr} {fd fdBO fdEI fdLE fdSM fdDK fdDR fdMC fdSE fdCR fdAR : FuncData} {cBO PBO cEI PEI cLE PLE : Addr} {TS : List NTab} (F : Fun K "law" "law" sLaw f fd)
    (BO : FnOk P w K mg base CX0 6 fBO fdBO ["one", "other"] (spTwo K TS fun a b => a && b)) (FBO : FunT K "both" "both" sBoth fBO fdBO cBO PBO) (bBO : Binds K fdBO ["one", "other"] []) (gBO : mg "both" = some (.ref fBO)) (EI : FnOk P w K mg base CX0 6 fEI fdEI ["one", "other"] (spTwo K TS fun a b => a || b)) (FEI : FunT K "either" "either" sEither fEI fdEI cEI PEI) (bEI : Binds K fdEI ["one", "other"] []) (gEI : mg "either" = some (.ref fEI)) (LE : FnOk P w K mg base CX0 6 fLE fdLE ["one", "other"] (spTwo K TS fun a b => a && !b)) (FLE : FunT K "less" "less" sLess fLE fdLE cLE PLE) (bLE : Binds K fdLE ["one", "other"] []) (gLE : mg "less" = some (.ref fLE)) (SM : FnOk P w K mg base CX0 5 fSM fdSM ["machine"] (spSmallest K)) (FSM : Fun K "smallest" "smallest" sSmallest fSM fdSM) (bSM : Binds K fdSM ["machine"] []) (gSM : mg "smallest" = some (.ref fSM)) (DK : FnOk P w K mg base CX0 1 fDK fdDK ["_law_script"] (spDeck K)) (FDK : Fun K "_law_deck" "_law_deck" sDeck fDK fdDK) (bDK : Binds K fdDK ["_law_script"] []) (gDK : mg "_law_deck" = some (.ref fDK)) (DR : FnOk P w K mg base CX0 1 fDR fdDR ["_law_deck_here", "_law_many"] spDraw) (FDR : Fun K "_law_draw" "_law_draw" sDraw fDR fdDR) (bDR : Binds K fdDR ["_law_deck_here", "_law_many"] []) (gDR : mg "_law_draw" = some (.ref fDR)) (MC : FnOk P w K mg base CX0 3 fMC fdMC ["_law_deck_here", "_law_letters", "_law_most"] (spMach K)) (FMC : Fun K "_law_machine" "_law_machine" sMach fMC fdMC) (bMC : Binds K fdMC ["_law_deck_here", "_law_letters", "_law_most"] []) (gMC : mg "_law_machine" = some (.ref fMC)) (SE : FnOk P w K mg base CX0 7 fSE fdSE ["_law_one_here", "_law_other", "_law_third", "_law_every"] (spSets K TS)) (FSE : Fun K "_law_sets_right" "_law_sets_right" sSetsR fSE fdSE) (bSE : Binds K fdSE ["_law_one_here", "_law_other", "_law_third", "_law_every"] []) (gSE : mg "_law_sets_right" = some (.ref fSE)) (CR : FnOk P w K mg base CX0 7 fCR fdCR ["_law_one_here", "_law_other", "_law_length"] (spCountsR K TS)) (FCR : Fun K "_law_counts_right" "_law_counts_right" sCountsR fCR fdCR) (bCR : Binds K fdCR ["_law_one_here", "_law_other", "_law_length"] []) (gCR : mg "_law_counts_right" = some (.ref fCR)) (AR : FnOk P w K mg base CX0 7 fAR fdAR ["_law_one_here", "_law_other"] (spApartR K TS)) (FAR : Fun K "_law_apart_right" "_law_apart_right" sApartR fAR fdAR) (bAR : Binds K fdAR ["_law_one_here", "_law_other"] []) (gAR : mg "_law_apart_right" = some (.ref fAR)) (T : Mg mg) : GRun P w K mg base 8 f fd ["_law_script"] (spLaw K TS) := by
  refine grun F scLaw (fun cdv A outer s H vs Q hG0 hr h => ?_)
  obtain ⟨l, ns, rfl, hS, hlen, tN, k⟩ := h
  have hG : (A.deeper (envOfC "law" (defScope sLaw) s.heap.objs.size f cdv)).guards = some [] := hG0
  have hu := hr.units
  refine ⟨_, (pss_cons (ps_set (i := 1) scLaw.nd rfl (.inr rfl) (pe_call DK (hr.mono (by decide)) (by rfl) gDK FDK.kp bDK .nil pass0 (pa_cons (pv 0) pa_nil)))
      (pss_cons (ps_for PassesOwn.never rfl (pi_range1 (by rfl) T.range (pa_cons pe_int pa_nil)) (pg_name (i := 2) scLaw.nd rfl (.inl rfl)) (pss_cons (ps_set (i := 3) scLaw.nd rfl (.inr rfl) (pe_op op_add pe_int (pe_call DR (hr.mono (by decide)) (by rfl) gDR FDR.kp bDR .nil pass0 (pa_cons (pv 1) (pa_cons pe_int pa_nil)))))
      (pss_cons (ps_asg (pe_lc (own := [("_law_k", 7)]) (g := gName 7) (tt := tYes) rfl scLaw.nd (pi_range1 (by rfl) T.range (pa_cons pe_int pa_nil)) (blkOk_by (N := ["_law_script", "_law_deck_here", "_law_turn", "_law_letters", "_law_one_here", "_law_other", "_law_third", "_law_k", "_law_every", "_law_own", "_law_length"]) (sc := defScope sLaw) (by decide +kernel)) (fun _ _ _ _ _ => pg_name (i := 7) scLaw.nd rfl (Or.inl rfl)) (fun _ _ _ _ _ => pts_nil) (fun _ _ _ _ _ => (pe_call MC (hr.mono (by decide)) (by rfl) gMC FMC.kp bMC .nil pass0 (pa_cons (pv 1) (pa_cons (pv 3) (pa_cons pe_int pa_nil)))))) (pg_unl rfl (pgs_cons (pg_name (i := 4) scLaw.nd rfl (.inl rfl)) (pgs_cons (pg_name (i := 5) scLaw.nd rfl (.inl rfl)) (pgs_cons (pg_name (i := 6) scLaw.nd rfl (.inl rfl)) pgs_nil)))))
      (pss_cons (ps_set (i := 8) scLaw.nd rfl (.inl rfl) (pe_tup (pa_cons (pv 3) (pa_cons (pe_tup (pa_cons (pe_op op_repS (pe_tup (pa_cons pe_int pa_nil)) (pv 3)) pa_nil)) (pa_cons (pe_tup (pa_cons pe_bl pa_nil)) pa_nil)))))
      (pss_cons (ps_if (PW.pt (pw_or (pt_not (pt_val (pe_call SE (hr.mono (by decide)) (by rfl) gSE FSE.kp bSE .nil pass0 (pa_cons (pv 4) (pa_cons (pv 5) (pa_cons (pv 6) (pa_cons (pv 8) pa_nil))))))) (pw_or1 (pt_not (pt_val (pe_call SE (hr.mono (by decide)) (by rfl) gSE FSE.kp bSE .nil pass0 (pa_cons (pv 6) (pa_cons (pv 4) (pa_cons (pv 8) (pa_cons (pv 8) pa_nil)))))))))) (pss_one (ps_ret pe_bl)) pss_nil)
      (pss_cons (ps_for PassesOwn.never rfl (pi_list (pe_lstA (pa_cons (pe_call BO (hr.mono (by decide)) (by rfl) gBO FBO.kp bBO .nil pass0 (pa_cons (pv 4) (pa_cons (pv 5) pa_nil))) (pa_cons (pe_call EI (hr.mono (by decide)) (by rfl) gEI FEI.kp bEI .nil pass0 (pa_cons (pv 4) (pa_cons (pv 5) pa_nil))) (pa_cons (pe_call LE (hr.mono (by decide)) (by rfl) gLE FLE.kp bLE .nil pass0 (pa_cons (pv 4) (pa_cons (pv 5) pa_nil))) (pa_cons (pe_call SM (hr.mono (by decide)) (by rfl) gSM FSM.kp bSM .nil pass0 (pa_cons (pv 6) pa_nil)) pa_nil)))))) (pg_name (i := 9) scLaw.nd rfl (.inl rfl)) (pss_one (ps_if (PW.pt (pw_or (pt_cmpR op_ne (pe_callB (call_reprD hG hu) (by rfl) T.repr (by decide +kernel) (pa_cons (pe_call SM (hr.mono (by decide)) (by rfl) gSM FSM.kp bSM .nil pass0 (pa_cons (pv 9) pa_nil)) pa_nil)) (pe_callB (call_reprD hG hu) (by rfl) T.repr (by decide +kernel) (pa_cons (pv 9) pa_nil)) (nomark _)) (pw_or1 (pt_cmpR op_gt (pe_callB (r := rLen K) call_len_seq (by rfl) T.len PySem.boot_len (pa_cons (pe_ix (r := rIxT K) ix_tup (pv 9) pe_int (fun _ _ => rfl)) pa_nil)) pe_int (nomark _))))) (pss_one (ps_ret pe_bl)) pss_nil)))
      (pss_cons (ps_for PassesOwn.never rfl (pi_tup (pe_tup (pa_cons pe_int (pa_cons pe_int (pa_cons pe_int (pa_cons (pe_op op_add pe_int (pe_call DR (hr.mono (by decide)) (by rfl) gDR FDR.kp bDR .nil pass0 (pa_cons (pv 1) (pa_cons pe_int pa_nil)))) pa_nil)))))) (pg_name (i := 10) scLaw.nd rfl (.inl rfl)) (pss_one (ps_if (PW.pt (pw_or (pt_not (pt_val (pe_call CR (hr.mono (by decide)) (by rfl) gCR FCR.kp bCR .nil pass0 (pa_cons (pv 4) (pa_cons (pv 5) (pa_cons (pv 10) pa_nil)))))) (pw_or1 (pt_not (pt_val (pe_call CR (hr.mono (by decide)) (by rfl) gCR FCR.kp bCR .nil pass0 (pa_cons (pv 5) (pa_cons (pv 6) (pa_cons (pv 10) pa_nil))))))))) (pss_one (ps_ret pe_bl)) pss_nil)))
      (pss_one (ps_if (PW.pt (pw_or (pt_not (pt_val (pe_call AR (hr.mono (by decide)) (by rfl) gAR FAR.kp bAR .nil pass0 (pa_cons (pv 4) (pa_cons (pv 5) pa_nil))))) (pw_or1 (pt_not (pt_val (pe_call AR (hr.mono (by decide)) (by rfl) gAR FAR.kp bAR .nil pass0 (pa_cons (pv 4) (pa_cons (pe_call EI (hr.mono (by decide)) (by rfl) gEI FEI.kp bEI .nil pass0 (pa_cons (pv 4) (pa_cons (pv 6) pa_nil))) pa_nil)))))))) (pss_one (ps_ret pe_bl)) pss_nil)))))))))
      (pss_one (ps_ret pe_bl)))), ?_⟩
  refine ⟨_, rfl, l, ns, rfl, hS, hlen, fun H1 a c cells0 s1 na nc dk0 => ?_⟩
  have tN1 := tN.ext s1
  refine ⟨6, rfl, by decide, by decide, for_range (lo := 0) (n := 6) (fun i σ H' => (∃ y2 y3 y4 y5 y6 y7 y8 y9 y10 : Option V, σ = [some (.ref l), some (.ref a), y2, y3, y4, y5, y6, y7, y8, y9, y10]) ∧ TabsN TS H' ∧ ∃ (cells : List Int) (n : Int), DeckAt a c cells n H' ∧ 0 ≤ n ∧ n ≤ 1000 * i)
    ⟨⟨_, _, _, _, _, _, _, _, _, rfl⟩, tN1, cells0, 0, dk0, by decide, by decide⟩ ?_ ?_⟩
  · rintro i σ H2 hi ⟨⟨y2, y3, y4, y5, y6, y7, y8, y9, y10, rfl⟩, tN, cells, n, dk, n0, nb⟩
    refine ⟨_, rfl, a, c, cells, n, 3, rfl, dk, by decide, by decide, n0, by omega, fun H3 cells3 r r0 r3 dk3 k3 => ?_⟩
    replace tN := tabs_deck dk k3 tN
    obtain ⟨L, hL⟩ : ∃ L : Nat, (L : Int) = 1 + r := ⟨(1 + r).toNat, by omega⟩
    refine ⟨1, r, rfl, rfl, ?_⟩
    dsimp only
    rw [← hL]
    have L1 : 1 ≤ L := by omega
    have L3 : L ≤ 3 := by omega
    refine ⟨3, rfl, by decide, by decide, fun D hD => ?_⟩
    have nBD := deck_off dk3 hD
    refine lc_range (lo := 0) (n := (3 : Int).toNat) (fun j H' => TabsN TS H' ∧ ∃ (cells : List Int) (n' : Int) (vs : List V), DeckAt a c cells n' H' ∧ n + 1 ≤ n' ∧ n' ≤ n + 1 + 100 * j ∧ H' D = some (.lst vs) ∧ vs.length = j ∧ ∀ v ∈ vs, ∃ (rs : Rows) (es : List Bool), Dt (Bd a c) K H' v (machDt L rs es) ∧ MOk L rs es ∧ rs.length ≤ 6)
      ⟨tN.ext (same_new hD), cells3, n + 1, [], deck_same (same_new hD) dk3, Int.le_refl _, by omega, upd_same, rfl, fun v hv => absurd hv List.not_mem_nil⟩ ?_ ?_
    · rintro j H4 hj ⟨tN, cells4, n4, vs, dk4, b1, b2, hl4, vl, hv⟩
      have hj : j < 3 := hj
      refine ⟨rfl, _, rfl, _, rfl, a, c, cells4, n4, (L : Int), 6, rfl, dk4, by omega, by omega, by omega, by omega, by decide, by decide, fun H5 cells5 n5 v rs0 es0 dk5 c1 c2 k5 hM => ?_⟩
      have hl5 := k5 D _ nBD hl4
      have tN5 := tabs_deck dk4 k5 tN
      refine ⟨vs, hl5, small9 (by omega), tabs_wr hl5 tN5, cells5, n5, vs ++ [v], ?_, by omega, by omega, upd_same, by rw [List.length_append, vl]; rfl, fun u hu => ?_⟩
      · exact deck_upd dk5 nBD
      · rcases List.mem_append.mp hu with hu | hu
        · obtain ⟨rs, es, d1, m1, q1⟩ := hv u hu
          exact ⟨rs, es, mach_wr hl5 (Dt.keep k5 _ _ d1), m1, q1⟩
        · rw [List.mem_singleton.mp hu]
          obtain ⟨rs, es, d1, m1, q1⟩ := mach_of hM L1 L3 (by decide)
          exact ⟨rs, es, mach_wr hl5 d1, m1, by omega⟩
    · rintro H4 ⟨tN, cells4, n4, vs, dk4, b1, b2, hl4, vl, hv⟩
      have vl : vs.length = 3 := vl
      match vs, vl with
      | [v1, v2, v3], _ =>
        obtain ⟨r1, e1, d1, m1, q1⟩ := hv v1 (by simp)
        obtain ⟨r2, e2, d2, m2, q2⟩ := hv v2 (by simp)
        obtain ⟨r3, e3, d3, m3, q3⟩ := hv v3 (by simp)
        clear hv
        refine ⟨D, _, rfl, SqL.of hl4, rfl, _, _, rfl, _, _, rfl, _, _, rfl, rfl, ?_⟩
        refine ⟨_, rfl, by show 1 ≤ sizeLine; decide, fun t1 nt1 => ?_⟩
        have f1 := same_new (o := .tup [.int 0]) nt1
        have nb1 := deck_off dk4 nt1
        have g1 : Rd (upd H4 t1 (.tup [.int 0])) t1 (.tup [.int 0]) := .inl upd_same
        generalize upd H4 t1 (.tup [.int 0]) = H5 at *
        have dk5 := deck_same f1 dk4
        refine ⟨_, rfl, t1, (L : Int), [.int 0], rfl, rfl, g1, by simp, by omega, by omega, by decide, fun tq H6 f2 gq hq => ?_⟩
        have nbq : ¬ Bd a c tq := by
          rcases hq with hq | hq
          · rw [hq]; exact nb1
          · exact deck_off dk5 hq
        rw [Int.toNat_natCast, List.flatten_replicate_singleton] at gq
        have dk6 := deck_same f2 dk5
        refine ⟨by show 1 ≤ sizeLine; decide, fun t2 nt2 => ?_⟩
        have f3 := same_new (o := .tup [.ref tq]) nt2
        have nb2 := deck_off dk6 nt2
        have g2 : Rd (upd H6 t2 (.tup [.ref tq])) t2 (.tup [.ref tq]) := .inl upd_same
        generalize upd H6 t2 (.tup [.ref tq]) = H7 at *
        have dk7 := deck_same f3 dk6
        refine ⟨by show 1 ≤ sizeLine; decide, fun t3 nt3 => ?_⟩
        have f4 := same_new (o := .tup [.bl true]) nt3
        have nb3 := deck_off dk7 nt3
        have g3 : Rd (upd H7 t3 (.tup [.bl true])) t3 (.tup [.bl true]) := .inl upd_same
        generalize upd H7 t3 (.tup [.bl true]) = H8 at *
        have dk8 := deck_same f4 dk7
        refine ⟨by show 3 ≤ sizeLine; decide, fun t4 nt4 => ?_⟩
        have f5 := same_new (o := .tup [.int (L : Int), .ref t2, .ref t3]) nt4
        have nb4 := deck_off dk8 nt4
        have g4 : Rd (upd H8 t4 (.tup [.int (L : Int), .ref t2, .ref t3])) t4 (.tup [.int (L : Int), .ref t2, .ref t3]) := .inl upd_same
        generalize upd H8 t4 (.tup [.int (L : Int), .ref t2, .ref t3]) = H9 at *
        have dk9 := deck_same f5 dk8
        have f49 := f1.trans (f2.trans (f3.trans (f4.trans f5)))
        replace tN := tN.ext f49
        have d0 : Dt (Bd a c) K H9 (.ref t4) (machDt L [List.replicate L (some 0)] [true]) := by
          refine .tup nb4 g4 (.cons (.int _) (.cons (.tup nb2 (same_rd (f4.trans f5) g2) (.cons ?_ .nil)) (.cons (.tup nb3 (same_rd f5 g3) (.cons (.bl _) .nil)) .nil)))
          refine .tup nbq (same_rd (f3.trans (f4.trans f5)) gq) ?_
          have := dt_cs (B := Bd a c) (K := K) (H := H9) (fD := oD) (fV := oV) (fun x => o_cs x) (List.replicate L (some 0))
          rw [List.map_replicate] at this
          exact this
        replace d1 := same_dt f49 d1
        replace d2 := same_dt f49 d2
        replace d3 := same_dt f49 d3
        have tb := deck_tbx dk9
        have M0 := mok_every L1 L3
        have T123 := tri_of m1 m2 m3 q1 q2 q3
        have T31 := tri_of m3 m1 M0 q3 q1 (show 1 ≤ 6 by decide)
        clear f1 f2 f3 f4 f5 nb1 nb2 nb3 nb4 nbq g1 g2 g3 g4 gq hq nt1 nt2 nt3 nt4 f49 dk4 dk5 dk6 dk7 dk8 hl4
        refine ⟨_, rfl, _, rfl, _, rfl, _, rfl, L, _, _, _, Bd a c, v1, v2, v3, .ref t4, rfl, T123, tb, tN, ⟨r1, e1, d1, m1, fun _ => rfl⟩, ⟨r2, e2, d2, m2, fun _ => rfl⟩, ⟨r3, e3, d3, m3, fun _ => rfl⟩, ⟨_, _, d0, M0, acc_every⟩, fun Ha xa tN => ?_⟩
        replace d1 := Dt.extN xa _ _ d1
        replace d2 := Dt.extN xa _ _ d2
        replace d3 := Dt.extN xa _ _ d3
        replace d0 := Dt.extN xa _ _ d0
        replace tb := tb.ext xa
        have dk9 := deck_ext xa dk9
        refine ⟨true, rfl, ?_⟩
        refine ite2 (fun z => absurd z Bool.false_ne_true) (fun _ => ?_)
        refine ⟨_, rfl, _, rfl, _, rfl, _, rfl, L, _, _, _, Bd a c, v3, v1, .ref t4, .ref t4, rfl, T31, tb, tN, ⟨r3, e3, d3, m3, fun _ => rfl⟩, ⟨r1, e1, d1, m1, fun _ => rfl⟩, ⟨_, _, d0, M0, fun _ => rfl⟩, ⟨_, _, d0, M0, acc_every⟩, fun Hb xb tN => ?_⟩
        replace d1 := Dt.extN xb _ _ d1
        replace d2 := Dt.extN xb _ _ d2
        replace d3 := Dt.extN xb _ _ d3
        replace d0 := Dt.extN xb _ _ d0
        replace tb := tb.ext xb
        have dk9 := deck_ext xb dk9
        refine ⟨true, rfl, ?_⟩
        refine ite2 (fun z => absurd z Bool.false_ne_true) (fun _ => ?_)
        refine ⟨_, rfl, _, rfl, two_call (E := E0) (G := fun a _ _ _ => a) (G' := fun _ b _ _ => b) (g := fun a b => a && b) T123 tb tN ⟨r1, e1, d1, m1, fun _ => rfl⟩ ⟨r2, e2, d2, m2, fun _ => rfl⟩ fun G1 w1 y1 t1 b1 => ?_⟩
        replace tN := t1
        replace d1 := Dt.extN y1 _ _ d1
        replace d2 := Dt.extN y1 _ _ d2
        replace d3 := Dt.extN y1 _ _ d3
        replace d0 := Dt.extN y1 _ _ d0
        replace tb := tb.ext y1
        have dk9 := deck_ext y1 dk9
        refine ⟨_, rfl, _, rfl, two_call (E := E0) (G := fun a _ _ _ => a) (G' := fun _ b _ _ => b) (g := fun a b => a || b) T123 tb tN ⟨r1, e1, d1, m1, fun _ => rfl⟩ ⟨r2, e2, d2, m2, fun _ => rfl⟩ fun G2 w2 y2 t2 b2 => ?_⟩
        replace tN := t2
        replace d1 := Dt.extN y2 _ _ d1
        replace d2 := Dt.extN y2 _ _ d2
        replace d3 := Dt.extN y2 _ _ d3
        replace d0 := Dt.extN y2 _ _ d0
        replace tb := tb.ext y2
        have dk9 := deck_ext y2 dk9
        replace b1 := b1.ext y2
        refine ⟨_, rfl, _, rfl, two_call (E := E0) (G := fun a _ _ _ => a) (G' := fun _ b _ _ => b) (g := fun a b => a && !b) T123 tb tN ⟨r1, e1, d1, m1, fun _ => rfl⟩ ⟨r2, e2, d2, m2, fun _ => rfl⟩ fun G3 w3 y3 t3 b3 => ?_⟩
        replace tN := t3
        replace d1 := Dt.extN y3 _ _ d1
        replace d2 := Dt.extN y3 _ _ d2
        replace d3 := Dt.extN y3 _ _ d3
        replace d0 := Dt.extN y3 _ _ d0
        replace tb := tb.ext y3
        have dk9 := deck_ext y3 dk9
        replace b1 := b1.ext y3
        replace b2 := b2.ext y3
        refine ⟨_, rfl, small_call (E := E0) (G := fun _ _ c _ => c) T123 tb ⟨r3, e3, d3, m3, fun _ => rfl⟩ fun G4 w4 s4 b4 => ?_⟩
        have y4 := ExtN.of s4
        replace tN := tN.ext s4
        replace d1 := Dt.extN y4 _ _ d1
        replace d2 := Dt.extN y4 _ _ d2
        replace d3 := Dt.extN y4 _ _ d3
        replace d0 := Dt.extN y4 _ _ d0
        replace tb := tb.ext y4
        have dk9 := deck_ext y4 dk9
        replace b1 := b1.ext y4
        replace b2 := b2.ext y4
        replace b3 := b3.ext y4
        refine ⟨by show 4 ≤ sizeLine; decide, fun lp G5 s5 lp0 nlp hlp => ?_⟩
        have y5 := ExtN.of s5
        replace tN := tN.ext s5
        replace d1 := Dt.extN y5 _ _ d1
        replace d2 := Dt.extN y5 _ _ d2
        replace d3 := Dt.extN y5 _ _ d3
        replace d0 := Dt.extN y5 _ _ d0
        replace tb := tb.ext y5
        have dk9 := deck_ext y5 dk9
        replace b1 := b1.ext y5
        replace b2 := b2.ext y5
        replace b3 := b3.ext y5
        replace b4 := b4.ext y5
        refine ⟨lp, rfl, ⟨_, SqL.of hlp⟩, ?_⟩
        have all : ∀ v ∈ [w1, w2, w3, w4], ∃ G, Bm (Bd a c) K G5 L (fun w => acc r1 e1 w 0) (fun w => acc r2 e2 w 0) (fun w => acc r3 e3 w 0) G v := fun v hv => by
          rcases List.mem_cons.mp hv with z | hv
          · rw [z]; exact ⟨_, b1⟩
          rcases List.mem_cons.mp hv with z | hv
          · rw [z]; exact ⟨_, b2⟩
          rcases List.mem_cons.mp hv with z | hv
          · rw [z]; exact ⟨_, b3⟩
          · rw [List.mem_singleton.mp hv]; exact ⟨_, b4⟩
        refine for_list (K := K) (a := lp) (xs := [w1, w2, w3, w4]) (fun j σ H' => (∃ y2 y7 y9 y10 : Option V, σ = [some (.ref l), some (.ref a), y2, some (.int (L : Int)), some v1, some v2, some v3, y7, some (.ref t4), y9, y10]) ∧ Same G5 H')
          ⟨⟨_, _, _, _, rfl⟩, Same.refl _⟩ (fun j σ H' _ p => SqL.of (p.2 _ _ hlp)) ?_ ?_
        · rintro j v σ H6 hx ⟨⟨z2, z7, z9, z10, rfl⟩, sm⟩
          obtain ⟨G, hb⟩ := all v (List.mem_of_getElem? hx)
          replace hb := hb.ext (ExtN.of sm)
          refine ⟨_, rfl, small_call (E := E0) (G := G) T123 (tb.same sm) hb.lm fun H7 u7 s7 c7 => ?_⟩
          obtain ⟨rs, es, D1, D2, MM⟩ := c7.eq T123 (hb.ext (ExtN.of s7)) (alk_refl G)
          obtain ⟨g1, g2, g3⟩ := one_show MM
          refine ⟨u7, machDt L rs es, Bd a c, rfl, D1, g1, g2, g3, ?_⟩
          refine ⟨_, rfl, v, machDt L rs es, Bd a c, rfl, D2, g1, g2, g3, ?_⟩
          generalize (machDt L rs es).shown = S
          refine ⟨rfl, ?_⟩
          rw [show (!decide (V.str S = V.str S)) = false by rw [decide_eq_true rfl]; rfl]
          refine ⟨false, rfl, ?_⟩
          refine ite2 (fun z => absurd z Bool.false_ne_true) (fun _ => ?_)
          obtain ⟨mm, pr, pe, rvs, rfl, _, MA'⟩ := dt_mach D2
          have ln := MM.l400
          have lr := MA'.hl
          refine ⟨_, rfl, mm, _, 1, .ref pr, rfl, rfl, .inl MA'.hm, atI_nat (j := 1) rfl, pr, rvs, rfl, .inr (.inl MA'.hr), _, _, rfl, rfl, ?_⟩
          refine ⟨_, rfl, ?_⟩
          refine ite2 (fun z => absurd (of_decide_eq_true z) (by omega)) (fun _ => ?_)
          exact ⟨⟨_, _, _, _, rfl⟩, sm.trans s7⟩
        · rintro σ H6 ⟨⟨z2, z7, z9, z10, rfl⟩, sm⟩
          clear all b1 b2 b3 b4 hlp
          have y6 := ExtN.of sm
          replace tN := tN.ext sm
          replace d1 := Dt.extN y6 _ _ d1
          replace d2 := Dt.extN y6 _ _ d2
          replace d3 := Dt.extN y6 _ _ d3
          replace d0 := Dt.extN y6 _ _ d0
          replace tb := tb.ext y6
          have dk9 := deck_ext y6 dk9
          refine ⟨_, rfl, a, c, cells4, n4, 20, rfl, dk9, by decide, by decide, by omega, by omega, fun H8 cells8 r8 r80 r83 dk8 k8 => ?_⟩
          replace tN := tabs_deck dk9 k8 tN
          replace d1 := Dt.keep k8 _ _ d1
          replace d2 := Dt.keep k8 _ _ d2
          replace d3 := Dt.keep k8 _ _ d3
          replace d0 := Dt.keep k8 _ _ d0
          replace tb := deck_tbx dk8
          have dk9 := dk8
          refine ⟨5, r8, rfl, rfl, by show 4 ≤ sizeLine; decide, fun tp ntp => ?_⟩
          have s9 := same_new (o := .tup [.int 0, .int 1, .int 2, .int (5 + r8)]) ntp
          have y7 := ExtN.of s9
          have htp : (upd H8 tp (.tup [.int 0, .int 1, .int 2, .int (5 + r8)])) tp = some (.tup [.int 0, .int 1, .int 2, .int (5 + r8)]) := upd_same
          refine ⟨tp, rfl, ⟨_, SqT.of htp⟩, ?_⟩
          replace tN := tN.ext s9
          replace d1 := Dt.extN y7 _ _ d1
          replace d2 := Dt.extN y7 _ _ d2
          replace d3 := Dt.extN y7 _ _ d3
          replace d0 := Dt.extN y7 _ _ d0
          replace tb := tb.ext y7
          have dk9 := deck_ext y7 dk9
          generalize upd H8 tp (.tup [.int 0, .int 1, .int 2, .int (5 + r8)]) = G8 at *
          have all : ∀ v ∈ [V.int 0, V.int 1, V.int 2, V.int (5 + r8)], ∃ n : Nat, v = .int (n : Int) ∧ n < 1000 := fun v hv => by
            rcases List.mem_cons.mp hv with z | hv
            · exact ⟨0, z, by decide⟩
            rcases List.mem_cons.mp hv with z | hv
            · exact ⟨1, z, by decide⟩
            rcases List.mem_cons.mp hv with z | hv
            · exact ⟨2, z, by decide⟩
            · exact ⟨(5 + r8).toNat, by rw [List.mem_singleton.mp hv, Int.toNat_of_nonneg (by omega)], by omega⟩
          refine for_it (walk_tup (K := K) (a := tp) (xs := [V.int 0, V.int 1, V.int 2, V.int (5 + r8)])) (fun j σ H' => (∃ y2 y7 y9 y10 : Option V, σ = [some (.ref l), some (.ref a), y2, some (.int (L : Int)), some v1, some v2, some v3, y7, some (.ref t4), y9, y10]) ∧ ExtN G8 H' ∧ TabsN TS H')
            ⟨⟨_, _, _, _, rfl⟩, ExtN.refl _, tN⟩ (fun j σ H' _ p => .inl (rd_ext p.2.1 (fun ps z => by cases z) (.inl htp))) ?_ ?_
          · rintro j x σ H9 H10 hj ⟨⟨z2, z7, z9, z10, rfl⟩, xm, tN⟩ ⟨rfl, hx⟩
            obtain ⟨n, rfl, n9⟩ := all x (List.mem_of_getElem? hx)
            replace d1 := Dt.extN xm _ _ d1
            replace d2 := Dt.extN xm _ _ d2
            replace d3 := Dt.extN xm _ _ d3
            replace tb := tb.ext xm
            refine ⟨_, rfl, _, rfl, _, rfl, L, n, _, _, _, Bd a c, v1, v2, (fun a _ _ _ => a), (fun _ b _ _ => b), rfl, n9, T123, tb, tN, ⟨r1, e1, d1, m1, fun _ => rfl⟩, ⟨r2, e2, d2, m2, fun _ => rfl⟩, fun Ha xa tN => ?_⟩
            replace d2 := Dt.extN xa _ _ d2
            replace d3 := Dt.extN xa _ _ d3
            replace tb := tb.ext xa
            refine ⟨true, rfl, ?_⟩
            refine ite2 (fun z => absurd z Bool.false_ne_true) (fun _ => ?_)
            refine ⟨_, rfl, _, rfl, _, rfl, L, n, _, _, _, Bd a c, v2, v3, (fun _ b _ _ => b), (fun _ _ c _ => c), rfl, n9, T123, tb, tN, ⟨r2, e2, d2, m2, fun _ => rfl⟩, ⟨r3, e3, d3, m3, fun _ => rfl⟩, fun Hb xb tN => ?_⟩
            refine ⟨true, rfl, ?_⟩
            refine ite2 (fun z => absurd z Bool.false_ne_true) (fun _ => ?_)
            exact ⟨⟨_, _, _, _, rfl⟩, xm.trans (xa.trans xb), tN⟩
          · rintro σ H9 ⟨⟨z2, z7, z9, z10, rfl⟩, xm, tN⟩
            replace d1 := Dt.extN xm _ _ d1
            replace d2 := Dt.extN xm _ _ d2
            replace d3 := Dt.extN xm _ _ d3
            replace d0 := Dt.extN xm _ _ d0
            replace tb := tb.ext xm
            have dk9 := deck_ext xm dk9
            refine ⟨_, rfl, _, rfl, L, _, _, _, Bd a c, v1, v2, (fun a _ _ _ => a), (fun _ b _ _ => b), rfl, T123, tb, tN, ⟨r1, e1, d1, m1, fun _ => rfl⟩, ⟨r2, e2, d2, m2, fun _ => rfl⟩, fun Ha xa tN => ?_⟩
            replace d1 := Dt.extN xa _ _ d1
            replace d2 := Dt.extN xa _ _ d2
            replace d3 := Dt.extN xa _ _ d3
            replace d0 := Dt.extN xa _ _ d0
            replace tb := tb.ext xa
            have dk9 := deck_ext xa dk9
            refine ⟨true, rfl, ?_⟩
            refine ite2 (fun z => absurd z Bool.false_ne_true) (fun _ => ?_)
            refine ⟨_, rfl, _, rfl, _, rfl, two_call (E := E0) (G := fun a _ _ _ => a) (G' := fun _ _ c _ => c) (g := fun a b => a || b) T123 tb tN ⟨r1, e1, d1, m1, fun _ => rfl⟩ ⟨r3, e3, d3, m3, fun _ => rfl⟩ fun Hc wc xc tc bc => ?_⟩
            replace tN := tc
            replace d1 := Dt.extN xc _ _ d1
            replace d2 := Dt.extN xc _ _ d2
            replace d3 := Dt.extN xc _ _ d3
            replace d0 := Dt.extN xc _ _ d0
            replace tb := tb.ext xc
            have dk9 := deck_ext xc dk9
            refine ⟨L, _, _, _, Bd a c, v1, wc, (fun a _ _ _ => a), _, rfl, T123, tb, tN, ⟨r1, e1, d1, m1, fun _ => rfl⟩, bc.lm, fun Hd xd tN => ?_⟩
            replace d1 := Dt.extN xd _ _ d1
            replace d2 := Dt.extN xd _ _ d2
            replace d3 := Dt.extN xd _ _ d3
            replace d0 := Dt.extN xd _ _ d0
            replace tb := tb.ext xd
            have dk9 := deck_ext xd dk9
            refine ⟨true, rfl, ?_⟩
            refine ite2 (fun z => absurd z Bool.false_ne_true) (fun _ => ?_)
            exact ⟨⟨_, _, _, _, _, _, _, _, _, rfl⟩, tN, cells8, _, dk9, by omega, by omega⟩
  · rintro σ H2 ⟨⟨y2, y3, y4, y5, y6, y7, y8, y9, y10, rfl⟩, tN, cells, n, dk, n0, nb⟩
    exact k _
end
/-! ### the law's call where one code object has a table of its own -/
section
open NdefX LamX
variable {P : Program} {w : World} {K : PySem.W.Frag} {mg : Str → Option Value}
/-- what is tracked at the start: the tables, still empty, and at most the script -/
structure OneTs (K : PySem.W.Frag) (H : Hp) (a : Addr) (Ps : List Addr) : Prop where
  tb : ∀ Pt ∈ Ps, H Pt = some (.tbl #[])
  rest : ∀ b o, b ∉ Ps → H b = some o → b = a ∧ (∃ ob xs, o = .frz ob (.lst xs) ∧ (∀ es ep, ob.data ≠ .dict es ep) ∧ ob.data ≠ .plain) ∧ K.lookup a = none
/-- the heap of the start: the tables are there, empty; their code objects are known -/
structure TabAts (K : PySem.W.Frag) (h : Heap) (mg : Str → Option Value) (CP : List (Addr × Addr)) : Prop where
  get : ∀ p ∈ CP, h.get? p.2 = some { cls := .none, data := .fields #[] }
  non : ∀ p ∈ CP, K.lookup p.2 = none
  hd : ∀ p ∈ CP, PySem.W.codeHdIn K p.1 p.2 = true
  bmn : ∃ (bm : Addr) (ob : Obj), mg "__builtins__" = some (.ref bm) ∧ bm ≠ builtinsNs ∧ h.get? bm = some ob ∧ ob.cls = .type "module" ∧ ob.dict = some builtinsNs ∧ ob.data = .plain
theorem gcallTs {k : Nat} {fa a : Addr} {CP : List (Addr × Addr)} {fd : FuncData} {x : Str} {sp : Sp} {s₁ : Shared} {mb : Str → Option Value} {H : Hp}
    (inH : K.In s₁.heap) (atG : s₁.heap.Ns mainGlobals mg) (hb : s₁.heap.Ns builtinsNs mb) (bB : ∀ x : Str, x ≠ "__name__" → mb x = bootBuiltins x) (lim : s₁.heap.NoLimit) (hg : s₁.gens = #[])
    (TA : TabAts K s₁.heap mg CP) (hr : Room k callerA) (R : ∀ base : Heap, K.In base → base.Ns mainGlobals mg → (∀ p ∈ CP, TabB base mg p.1 p.2) → GRun P w K mg base k fa fd [x] sp) (bind : ∀ (s : Shared) (u : Value), BindsTo s fd ⟨[u], []⟩ [(x, u)])
    (hok : HOk P w H s₁.heap) (only : OneTs K H a (CP.map (·.2))) (hsp : sp [.ref a] H (fun v _ => v = .bl true) E0) : TrueAt P w fa a s₁ := by
  obtain ⟨tget, tnon, thd, bm, bo, bg, bnb, bat, bcl, bdi, bda⟩ := TA
  have mem : ∀ {b : Addr}, b ∈ CP.map (·.2) → ∃ c, (c, b) ∈ CP := fun h => by
    obtain ⟨p, hp, e⟩ := List.mem_map.mp h
    exact ⟨p.1, by rw [← e]; exact hp⟩
  have free : ∀ {b : Addr} {o : Obj}, s₁.heap.get? b = some o → b ∉ CP.map (·.2) → ((∃ es ep, o.data = .dict es ep) ∨ o.data = .plain) → H b = none := by
    intro b o e np hd
    cases z : H b with
    | none => rfl
    | some u =>
      obtain ⟨_, ⟨ob, xs, rfl, nd, npl⟩, _⟩ := only.rest b u np z
      have e2 := (hok b _ z).1
      rw [e] at e2
      cases e2
      rcases hd with ⟨es, ep, d⟩ | d
      · exact absurd d (nd es ep)
      · exact absurd d npl
  have notP : ∀ {b : Addr} {o : Obj}, s₁.heap.get? b = some o → ((∃ es ep, o.data = .dict es ep) ∨ o.data = .plain) → b ∉ CP.map (·.2) := by
    intro b o e hd hm
    obtain ⟨c, hc⟩ := mem hm
    have tg := tget _ hc
    rw [show (c, b).2 = b from rfl, e] at tg
    cases tg
    rcases hd with ⟨_, _, d⟩ | d <;> cases d
  have nsB : ∀ {b : Addr} {m : Str → Option Value}, s₁.heap.Ns b m → (hidT s₁.heap H).Ns b m := by
    rintro b m ⟨o, es, ep, e, d, r⟩
    have hd : (∃ es ep, o.data = .dict es ep) ∨ o.data = .plain := .inl ⟨es, ep, d⟩
    exact ⟨o, es, ep, hidT_get e (free e (notP e hd) hd), d, r⟩
  have kB : K.In (hidT s₁.heap H) := by
    intro b o q
    refine hidT_get (inH b o q) ?_
    cases z : H b with
    | none => rfl
    | some u =>
      by_cases np : b ∈ CP.map (·.2)
      · obtain ⟨c, hc⟩ := mem np
        have := tnon _ hc
        rw [show (c, b).2 = b from rfl, q] at this
        cases this
      · obtain ⟨e, _, n⟩ := only.rest b u np z
        rw [e, n] at q
        cases q
  have md : L2.Mod K mg (hidT s₁.heap H) := by
    obtain ⟨mc, l1, l2⟩ := lim
    exact ⟨kB, nsB atG, ⟨mb, nsB hb, bB⟩, ⟨mc, nsB l1, l2⟩⟩
  have gNe : mainGlobals ∉ CP.map (·.2) := by
    obtain ⟨o, es, ep, e, d, _⟩ := atG
    exact notP e (.inl ⟨es, ep, d⟩)
  have tbB : ∀ p ∈ CP, TabB (hidT s₁.heap H) mg p.1 p.2 := fun p hp => by
    have pm : p.2 ∈ CP.map (·.2) := List.mem_map_of_mem hp
    have hd : (∃ es ep, bo.data = .dict es ep) ∨ bo.data = .plain := .inr bda
    refine tabB_of_K kB (thd p hp) ⟨bm, bo, bg, bnb, ?_, fun z => notP bat hd (by rw [z]; exact pm), hidT_get bat (free bat (notP bat hd) hd), bcl, bdi, bda⟩ (fun z => gNe (by rw [z]; exact pm))
    rintro rfl
    obtain ⟨o, es, ep, e, d, _⟩ := atG
    rw [bat] at e
    cases e
    rw [bda] at d
    cases d
  have env : Env0 P w K mg (hidT s₁.heap H) callerA [] s₁ H :=
    { frames := rfl, mod := md, bs := fun b o q => of_hidT q, bsz := Nat.le_of_eq (hidT_size _ _), funs := trivial, frf := fun b z => absurd z List.not_mem_nil, hok := hok, bare := .of_eq hg }
  have run := R _ kB (nsB atG) tbB callerA [] s₁ H [.ref a] [.ref a] _ rfl hr env (bind s₁ (.ref a)) (.cons rfl .nil) rfl hsp
  refine codeAny_mono run (fun r s' z => ?_)
  match r, z with
  | .error _, z => exact z.elim
  | .ok .next, z => exact z.elim
  | .ok .brk, z => exact z.elim
  | .ok .cont, z => exact z.elim
  | .ok (.ret u), ⟨v, H', os, bare, un, hok', rv, q⟩ =>
    have q : v = .bl true := q
    cases q
    have rv : u = Value.bool true := rv
    cases rv
    have stays : ∀ b o, b ∉ CP.map (·.2) → s₁.heap.get? b = some o → s'.heap.get? b = some o := fun b o np e => by
      cases z : H b with
      | none => exact un.keep b o e z List.not_mem_nil List.not_mem_nil
      | some u =>
        obtain ⟨_, ⟨ob, xs, rfl, _⟩, _⟩ := only.rest b u np z
        have g1 := (hok b _ z).1
        have g2 := (hok' b _ (un.frzs b ob _ z)).1
        rw [e] at g1
        cases g1
        exact g2
    have at' : ∀ Pt ∈ CP.map (·.2), ∃ more, s'.heap.get? Pt = some { cls := .none, data := .fields (#[] ++ more) } := fun Pt hp => by
      obtain ⟨more, ht⟩ := un.tbls Pt #[] (only.tb Pt hp)
      exact ⟨more, hok' Pt _ ht⟩
    refine ⟨rfl, ⟨fun b o e => ?_, fun b o e => ?_⟩, os, bare⟩
    · by_cases np : b ∈ CP.map (·.2)
      · obtain ⟨c, hc⟩ := mem np
        have tg := tget _ hc
        have cd := PySem.W.codeHd_of_K inH (thd _ hc)
        obtain ⟨more, h2⟩ := at' b np
        rw [show (c, b).2 = b from rfl] at tg
        have cdt := (cd.tab tg).isCodeTable
        rw [e] at tg
        cases tg
        exact .inr (.inl ⟨cdt, rfl, #[], more, rfl, h2⟩)
      · exact .inl (stays b o np e)
    · by_cases np : b ∈ CP.map (·.2)
      · obtain ⟨more, h2⟩ := at' b np
        exact ⟨_, h2⟩
      · exact ⟨o, stays b o np e⟩
/-- the tables at the start -/
def tabsH (Ps : List Addr) : Hp := fun b => if b ∈ Ps then some (.tbl #[]) else none
theorem glawTs {k : Nat} {fa a : Addr} {CP : List (Addr × Addr)} {fd : FuncData} {x : Str} {sp : Sp} {s₁ : Shared} {mb : Str → Option Value} {vs : List Value} {ns : List Int}
    (inH : K.In s₁.heap) (atG : s₁.heap.Ns mainGlobals mg) (hb : s₁.heap.Ns builtinsNs mb) (bB : ∀ x : Str, x ≠ "__name__" → mb x = bootBuiltins x) (lim : s₁.heap.NoLimit) (hg : s₁.gens = #[])
    (TA : TabAts K s₁.heap mg CP) (ha : s₁.heap.get? a = some { cls := .type "list", data := .seq vs.toArray }) (hi : IntsAre vs ns) (hl : ns.length ≤ sizeLine)
    (hr : Room k callerA) (R : ∀ base : Heap, K.In base → base.Ns mainGlobals mg → (∀ p ∈ CP, TabB base mg p.1 p.2) → GRun P w K mg base k fa fd [x] sp) (bind : ∀ (s : Shared) (u : Value), BindsTo s fd ⟨[u], []⟩ [(x, u)])
    (hsp : ∀ H : Hp, (∀ p ∈ CP, H p.2 = some (.tbl #[])) → SqL K H a (ns.map V.int) → sp [.ref a] H (fun v _ => v = .bl true) E0) : TrueAt P w fa a s₁ := by
  have rv := vals_ints hi
  have mem : ∀ {b : Addr}, b ∈ CP.map (·.2) → ∃ c, (c, b) ∈ CP := fun h => by
    obtain ⟨p, hp, e⟩ := List.mem_map.mp h
    exact ⟨p.1, by rw [← e]; exact hp⟩
  have nap : a ∉ CP.map (·.2) := fun z => by
    obtain ⟨c, hc⟩ := mem z
    have e := TA.get _ hc
    rw [show (c, a).2 = a from rfl, ha] at e
    cases e
  have yes : ∀ {b : Addr}, b ∈ CP.map (·.2) → tabsH (CP.map (·.2)) b = some (.tbl #[]) := fun h => if_pos h
  have no : ∀ {b : Addr}, b ∉ CP.map (·.2) → tabsH (CP.map (·.2)) b = none := fun h => if_neg h
  have okT : ∀ b u, tabsH (CP.map (·.2)) b = some u → b ∈ CP.map (·.2) ∧ u = .tbl #[] := fun b u z => by
    by_cases h : b ∈ CP.map (·.2)
    · rw [yes h] at z
      cases z
      exact ⟨h, rfl⟩
    · rw [no h] at z
      cases z
  cases q : K.lookup a with
  | some o =>
    have e := (inH a o q).symm.trans ha
    cases e
    refine gcallTs (H := tabsH (CP.map (·.2))) inH atG hb bB lim hg TA hr R bind (fun b u z => ?_) ⟨fun Pt h => yes h, fun b u np z => ?_⟩ (hsp _ (fun p hp => yes (List.mem_map_of_mem hp)) (.inr ⟨_, vs.toArray, _, q, rfl, rfl, rfl, ?_, by simpa using rv⟩))
    · obtain ⟨h, rfl⟩ := okT b u z
      obtain ⟨c, hc⟩ := mem h
      exact TA.get _ hc
    · rw [no np] at z
      cases z
    · rw [List.size_toArray, hi.length]
      exact hl
  | none =>
    refine gcallTs (H := upd (tabsH (CP.map (·.2))) a (.frz { cls := .type "list", data := .seq vs.toArray } (.lst (ns.map V.int)))) inH atG hb bB lim hg TA hr R bind (fun b u z => ?_) ⟨fun Pt h => ?_, fun b u np z => ?_⟩ (hsp _ (fun p hp => ?_) (.inl (.inr ⟨_, upd_same⟩)))
    · by_cases na : b = a
      · rw [na, upd_same] at z
        cases z
        rw [na]
        exact ⟨ha, by rw [List.length_map]; exact hl, vs, _, rv, ha⟩
      · rw [upd_ne na] at z
        obtain ⟨h, rfl⟩ := okT b u z
        obtain ⟨c, hc⟩ := mem h
        exact TA.get _ hc
    · rw [upd_ne (fun z => nap (by rw [← z]; exact h))]
      exact yes h
    · by_cases na : b = a
      · rw [na, upd_same] at z
        cases z
        exact ⟨na, ⟨_, _, rfl, (fun es ep d => by cases d), (fun d => by cases d)⟩, q⟩
      · rw [upd_ne na, no np] at z
        cases z
    · have h : p.2 ∈ CP.map (·.2) := List.mem_map_of_mem hp
      rw [upd_ne (fun z => nap (by rw [← z]; exact h))]
      exact yes h
end
/-- the end of the row's proof -/
theorem gwalkTs {l : PySem.W.OpenLaw} {n k : Nat} {q : Program} {loose : List Str} {XP : (Str → Option Value) → Heap → Prop} {YP : World → Heap → Prop} {d : DefRec} {K : Params → PySem.W.Frag} {ts : List Addr} {sp : World → List (Addr × Addr) → Sp} {x : Str}
    (hn : l.most = some n) (hn2 : n ≤ sizeLine) (hdf : d.params.defaults = []) (hr : Room k callerA) (hY : ∀ (w : World) (h : Heap), YP w h → (K w.params).In h ∧ ∀ T ∈ ts, h.get? T = some { cls := .none, data := .fields #[] })
    (F : ∀ (w : World) (mg : Str → Option Value) (fa : Addr) (h : Heap), (K w.params).In h → h.Ns mainGlobals mg → mg d.name = some (.ref fa) →
      ∃ (fd : FuncData) (CP : List (Addr × Addr)), (∀ p ∈ CP, p.2 ∈ ts ∧ (K w.params).lookup p.2 = none ∧ PySem.W.codeHdIn (K w.params) p.1 p.2 = true) ∧ (∀ (s : Shared) (u : Value), BindsTo s fd ⟨[u], []⟩ [(x, u)]) ∧
        ∀ base : Heap, (K w.params).In base → base.Ns mainGlobals mg → (∀ p ∈ CP, LamX.TabB base mg p.1 p.2) → GRun l.prog w (K w.params) mg base k fa fd [x] (sp w CP))
    (hsp : ∀ (w : World) (H : Hp) (a : Addr) (CP : List (Addr × Addr)) (ns : List Int), ns.length ≤ n → (∀ p ∈ CP, H p.2 = some (.tbl #[])) → SqL (K w.params) H a (ns.map V.int) → sp w CP [.ref a] H (fun v _ => v = .bl true) E0) :
    PySem.W.WalkO q loose XP YP l.row.toRowW d [] (fun f vs => PySem.call f vs) := by
  refine Att.attach_call hn hdf (fun w s₀ s₁ mg mb fa o pm cd doc a vs ns G Y _ _ _ hmg hobj hints hlen hg => ?_)
  obtain ⟨inK, tabs⟩ := hY w _ Y
  obtain ⟨fd, CP, hCP, bind, R⟩ := F w mg fa _ inK G.T.g hmg
  exact glawTs inK G.T.g G.T.b G.T.builtins G.T.nolimit hg ⟨fun p hp => tabs _ (hCP p hp).1, fun p hp => (hCP p hp).2.1, fun p hp => (hCP p hp).2.2, G.T.bmain⟩ hobj hints (Nat.le_trans hlen hn2) hr R bind (fun H hH hS => hsp w H a CP ns hlen hH hS)
/-- the tables with the names that are made there -/
def tabsOf (CP : List (Addr × Addr)) : List NdefX.NTab := (CP.map (·.2)).zip [nmBoth, nmEither, nmLess, nmA]
theorem tabsOf_nil {CP : List (Addr × Addr)} {H : Hp} (h : ∀ p ∈ CP, H p.2 = some (.tbl #[])) : NdefX.TabsN (tabsOf CP) H := fun q hq => by
  obtain ⟨p, hp, e⟩ := List.mem_map.mp (List.of_mem_zip (a := q.1) (b := q.2) hq).1
  exact NdefX.TabN.nil (by rw [← e]; exact h p hp)
theorem all_mk {l : PySem.W.OpenLaw} {w : World} {K : PySem.W.Frag} {h : Heap} {mg : Str → Option Value} {ts : List Addr} {fa cT0 cT1 cT2 cT3 PT0 PT1 PT2 PT3 f0 f1 f2 f3 f4 f5 f6 f7 f8 f9 f10 f11 f12 f13 f14 f15 f16 f17 f18 f19 f20 f21 f22 f23 f24 f25 f26 f27 f28 f29 f30 f31 f32 f33 f34 f35 : Addr} (inK : K.In h) (atG : h.Ns mainGlobals mg) (hfa : mg "law" = some (.ref fa))
    {odd0 and0 odd1 and1 odd2 and2 odd3 and3 odd4 and4 odd5 and5 odd6 and6 odd7 and7 odd8 and8 odd9 and9 odd10 and10 odd11 and11 odd12 and12 odd13 and13 odd14 and14 odd15 and15 odd16 and16 odd17 and17 odd18 and18 odd19 and19 odd20 and20 odd21 and21 odd22 and22 odd23 and23 odd24 and24 odd25 and25 odd26 and26 odd27 and27 odd28 and28 odd29 and29 odd30 and30 odd31 and31 odd32 and32 odd33 and33 odd34 and34 odd35 and35 : Option Addr} {sld0 sld1 sld2 sld3 sld4 sld5 sld6 sld7 sld8 sld9 sld10 sld11 sld12 sld13 sld14 sld15 sld16 sld17 sld18 sld19 sld20 sld21 sld22 sld23 sld24 sld25 sld26 sld27 sld28 sld29 sld30 sld31 sld32 sld33 sld34 sld35 : Array (Option Value)} {ocd0 kVd0 dcd0 pmd0 ctd0 cdd0 ocd1 kVd1 dcd1 pmd1 ctd1 cdd1 ocd2 kVd2 dcd2 pmd2 ctd2 cdd2 ocd3 kVd3 dcd3 pmd3 ctd3 cdd3 ocd4 kVd4 dcd4 pmd4 ctd4 cdd4 ocd5 kVd5 dcd5 pmd5 ctd5 cdd5 ocd6 kVd6 dcd6 pmd6 ctd6 cdd6 ocd7 kVd7 dcd7 pmd7 ctd7 cdd7 ocd8 kVd8 dcd8 pmd8 ctd8 cdd8 ocd9 kVd9 dcd9 pmd9 ctd9 cdd9 ocd10 kVd10 dcd10 pmd10 ctd10 cdd10 ocd11 kVd11 dcd11 pmd11 ctd11 cdd11 ocd12 kVd12 dcd12 pmd12 ctd12 cdd12 ocd13 kVd13 dcd13 pmd13 ctd13 cdd13 ocd14 kVd14 dcd14 pmd14 ctd14 cdd14 ocd15 kVd15 dcd15 pmd15 ctd15 cdd15 ocd16 kVd16 dcd16 pmd16 ctd16 cdd16 ocd17 kVd17 dcd17 pmd17 ctd17 cdd17 ocd18 kVd18 dcd18 pmd18 ctd18 cdd18 ocd19 kVd19 dcd19 pmd19 ctd19 cdd19 ocd20 kVd20 dcd20 pmd20 ctd20 cdd20 ocd21 kVd21 dcd21 pmd21 ctd21 cdd21 ocd22 kVd22 dcd22 pmd22 ctd22 ocd23 kVd23 dcd23 pmd23 ctd23 ocd24 kVd24 dcd24 pmd24 ctd24 ocd25 kVd25 dcd25 pmd25 ctd25 cdd25 ocd26 kVd26 dcd26 pmd26 ctd26 cdd26 ocd27 kVd27 dcd27 pmd27 ctd27 ocd28 kVd28 dcd28 pmd28 ctd28 cdd28 ocd29 kVd29 dcd29 pmd29 ctd29 cdd29 ocd30 kVd30 dcd30 pmd30 ctd30 cdd30 ocd31 kVd31 dcd31 pmd31 ctd31 cdd31 ocd32 kVd32 dcd32 pmd32 ctd32 cdd32 ocd33 kVd33 dcd33 pmd33 ctd33 cdd33 ocd34 kVd34 dcd34 pmd34 ctd34 cdd34 ocd35 kVd35 dcd35 pmd35 ctd35 cdd35 : Value} {t0v t1v : Tok}
    (t0 : ts = [PT3, PT2, PT1, PT0])
    (a0 : PySem.W.nsIn K mainGlobals "reached" = some (some (.ref f0)))
    (l0 : K.lookup f0 = some ⟨ocd0, odd0, .func (PySem.W.fnOf "reached" "reached" (defArgs sReached) (defBody sReached) (defScope sReached) .none kVd0 dcd0 pmd0 and0 cdd0 ctd0), sld0⟩)
    (c0 : PySem.W.codeIn K cdd0 "reached" = true)
    (k0 : PySem.W.keepIn K (.ref f0) = true)
    (a1 : PySem.W.nsIn K mainGlobals "sources" = some (some (.ref f1)))
    (l1 : K.lookup f1 = some ⟨ocd1, odd1, .func (PySem.W.fnOf "sources" "sources" (defArgs sSources) (defBody sSources) (defScope sSources) .none kVd1 dcd1 pmd1 and1 cdd1 ctd1), sld1⟩)
    (c1 : PySem.W.codeIn K cdd1 "sources" = true)
    (k1 : PySem.W.keepIn K (.ref f1) = true)
    (a2 : PySem.W.nsIn K mainGlobals "leading" = some (some (.ref f2)))
    (l2 : K.lookup f2 = some ⟨ocd2, odd2, .func (PySem.W.fnOf "leading" "leading" (defArgs sLeading) (defBody sLeading) (defScope sLeading) .none kVd2 dcd2 pmd2 and2 cdd2 ctd2), sld2⟩)
    (c2 : PySem.W.codeIn K cdd2 "leading" = true)
    (k2 : PySem.W.keepIn K (.ref f2) = true)
    (a3 : PySem.W.nsIn K mainGlobals "useful" = some (some (.ref f3)))
    (l3 : K.lookup f3 = some ⟨ocd3, odd3, .func (PySem.W.fnOf "useful" "useful" (defArgs sUseful) (defBody sUseful) (defScope sUseful) .none kVd3 dcd3 pmd3 and3 cdd3 ctd3), sld3⟩)
    (c3 : PySem.W.codeIn K cdd3 "useful" = true)
    (k3 : PySem.W.keepIn K (.ref f3) = true)
    (a4 : PySem.W.nsIn K mainGlobals "smallest_graph" = some (some (.ref f4)))
    (l4 : K.lookup f4 = some ⟨ocd4, odd4, .func (PySem.W.fnOf "smallest_graph" "smallest_graph" (defArgs sSmallG) (defBody sSmallG) (defScope sSmallG) .none kVd4 dcd4 pmd4 and4 cdd4 ctd4), sld4⟩)
    (c4 : PySem.W.codeIn K cdd4 "smallest_graph" = true)
    (k4 : PySem.W.keepIn K (.ref f4) = true)
    (a5 : PySem.W.nsIn K mainGlobals "smallest_marked" = some (some (.ref f5)))
    (l5 : K.lookup f5 = some ⟨ocd5, odd5, .func (PySem.W.fnOf "smallest_marked" "smallest_marked" (defArgs sSmallM) (defBody sSmallM) (defScope sSmallM) .none kVd5 dcd5 pmd5 and5 cdd5 ctd5), sld5⟩)
    (c5 : PySem.W.codeIn K cdd5 "smallest_marked" = true)
    (k5 : PySem.W.keepIn K (.ref f5) = true)
    (a6 : PySem.W.nsIn K mainGlobals "first_blocks" = some (some (.ref f6)))
    (l6 : K.lookup f6 = some ⟨ocd6, odd6, .func (PySem.W.fnOf "first_blocks" "first_blocks" (defArgs sBlocks) (defBody sBlocks) (defScope sBlocks) .none kVd6 dcd6 pmd6 and6 cdd6 ctd6), sld6⟩)
    (c6 : PySem.W.codeIn K cdd6 "first_blocks" = true)
    (k6 : PySem.W.keepIn K (.ref f6) = true)
    (a7 : PySem.W.nsIn K mainGlobals "refine" = some (some (.ref f7)))
    (l7 : K.lookup f7 = some ⟨ocd7, odd7, .func (PySem.W.fnOf "refine" "refine" (defArgs sRefine) (defBody sRefine) (defScope sRefine) .none kVd7 dcd7 pmd7 and7 cdd7 ctd7), sld7⟩)
    (c7 : PySem.W.codeIn K cdd7 "refine" = true)
    (k7 : PySem.W.keepIn K (.ref f7) = true)
    (a8 : PySem.W.nsIn K mainGlobals "move" = some (some (.ref f8)))
    (l8 : K.lookup f8 = some ⟨ocd8, odd8, .func (PySem.W.fnOf "move" "move" (defArgs sMove) (defBody sMove) (defScope sMove) .none kVd8 dcd8 pmd8 and8 cdd8 ctd8), sld8⟩)
    (c8 : PySem.W.codeIn K cdd8 "move" = true)
    (k8 : PySem.W.keepIn K (.ref f8) = true)
    (a9 : PySem.W.nsIn K mainGlobals "look_again" = some (some (.ref f9)))
    (l9 : K.lookup f9 = some ⟨ocd9, odd9, .func (PySem.W.fnOf "look_again" "look_again" (defArgs sLook) (defBody sLook) (defScope sLook) .none kVd9 dcd9 pmd9 and9 cdd9 ctd9), sld9⟩)
    (c9 : PySem.W.codeIn K cdd9 "look_again" = true)
    (k9 : PySem.W.keepIn K (.ref f9) = true)
    (a10 : PySem.W.nsIn K mainGlobals "numbered" = some (some (.ref f10)))
    (l10 : K.lookup f10 = some ⟨ocd10, odd10, .func (PySem.W.fnOf "numbered" "numbered" (defArgs sNumbered) (defBody sNumbered) (defScope sNumbered) .none kVd10 dcd10 pmd10 and10 cdd10 ctd10), sld10⟩)
    (c10 : PySem.W.codeIn K cdd10 "numbered" = true)
    (k10 : PySem.W.keepIn K (.ref f10) = true)
    (a11 : PySem.W.nsIn K mainGlobals "first_word" = some (some (.ref f11)))
    (l11 : K.lookup f11 = some ⟨ocd11, odd11, .func (PySem.W.fnOf "first_word" "first_word" (defArgs sFirst) (defBody sFirst) (defScope sFirst) .none kVd11 dcd11 pmd11 and11 cdd11 ctd11), sld11⟩)
    (c11 : PySem.W.codeIn K cdd11 "first_word" = true)
    (k11 : PySem.W.keepIn K (.ref f11) = true)
    (a12 : PySem.W.nsIn K mainGlobals "spelled" = some (some (.ref f12)))
    (l12 : K.lookup f12 = some ⟨ocd12, odd12, .func (PySem.W.fnOf "spelled" "spelled" (defArgs sSpelled) (defBody sSpelled) (defScope sSpelled) .none kVd12 dcd12 pmd12 and12 cdd12 ctd12), sld12⟩)
    (c12 : PySem.W.codeIn K cdd12 "spelled" = true)
    (k12 : PySem.W.keepIn K (.ref f12) = true)
    (a13 : PySem.W.nsIn K mainGlobals "is_of" = some (some (.ref f13)))
    (l13 : K.lookup f13 = some ⟨ocd13, odd13, .func (PySem.W.fnOf "is_of" "is_of" (defArgs sIsOf) (defBody sIsOf) (defScope sIsOf) .none kVd13 dcd13 pmd13 and13 cdd13 ctd13), sld13⟩)
    (c13 : PySem.W.codeIn K cdd13 "is_of" = true)
    (k13 : PySem.W.keepIn K (.ref f13) = true)
    (a14 : PySem.W.nsIn K mainGlobals "told" = some (some (.ref f14)))
    (l14 : K.lookup f14 = some ⟨ocd14, odd14, .func (PySem.W.fnOf "told" "told" (defArgs sTold) (defBody sTold) (defScope sTold) .none kVd14 dcd14 pmd14 and14 cdd14 ctd14), sld14⟩)
    (c14 : PySem.W.codeIn K cdd14 "told" = true)
    (k14 : PySem.W.keepIn K (.ref f14) = true)
    (a15 : PySem.W.nsIn K mainGlobals "reaching" = some (some (.ref f15)))
    (l15 : K.lookup f15 = some ⟨ocd15, odd15, .func (PySem.W.fnOf "reaching" "reaching" (defArgs sReaching) (defBody sReaching) (defScope sReaching) .none kVd15 dcd15 pmd15 and15 cdd15 ctd15), sld15⟩)
    (c15 : PySem.W.codeIn K cdd15 "reaching" = true)
    (k15 : PySem.W.keepIn K (.ref f15) = true)
    (a16 : PySem.W.nsIn K mainGlobals "further" = some (some (.ref f16)))
    (l16 : K.lookup f16 = some ⟨ocd16, odd16, .func (PySem.W.fnOf "further" "further" (defArgs sFurther) (defBody sFurther) (defScope sFurther) .none kVd16 dcd16 pmd16 and16 cdd16 ctd16), sld16⟩)
    (c16 : PySem.W.codeIn K cdd16 "further" = true)
    (k16 : PySem.W.keepIn K (.ref f16) = true)
    (a17 : PySem.W.nsIn K mainGlobals "count" = some (some (.ref f17)))
    (l17 : K.lookup f17 = some ⟨ocd17, odd17, .func (PySem.W.fnOf "count" "count" (defArgs sCount) (defBody sCount) (defScope sCount) .none kVd17 dcd17 pmd17 and17 cdd17 ctd17), sld17⟩)
    (c17 : PySem.W.codeIn K cdd17 "count" = true)
    (k17 : PySem.W.keepIn K (.ref f17) = true)
    (a18 : PySem.W.nsIn K mainGlobals "counts" = some (some (.ref f18)))
    (l18 : K.lookup f18 = some ⟨ocd18, odd18, .func (PySem.W.fnOf "counts" "counts" (defArgs sCounts) (defBody sCounts) (defScope sCounts) .none kVd18 dcd18 pmd18 and18 cdd18 ctd18), sld18⟩)
    (c18 : PySem.W.codeIn K cdd18 "counts" = true)
    (k18 : PySem.W.keepIn K (.ref f18) = true)
    (a19 : PySem.W.nsIn K mainGlobals "onward" = some (some (.ref f19)))
    (l19 : K.lookup f19 = some ⟨ocd19, odd19, .func (PySem.W.fnOf "onward" "onward" (defArgs sOnward) (defBody sOnward) (defScope sOnward) .none kVd19 dcd19 pmd19 and19 cdd19 ctd19), sld19⟩)
    (c19 : PySem.W.codeIn K cdd19 "onward" = true)
    (k19 : PySem.W.keepIn K (.ref f19) = true)
    (a20 : PySem.W.nsIn K mainGlobals "size" = some (some (.ref f20)))
    (l20 : K.lookup f20 = some ⟨ocd20, odd20, .func (PySem.W.fnOf "size" "size" (defArgs sSize) (defBody sSize) (defScope sSize) .none kVd20 dcd20 pmd20 and20 cdd20 ctd20), sld20⟩)
    (c20 : PySem.W.codeIn K cdd20 "size" = true)
    (k20 : PySem.W.keepIn K (.ref f20) = true)
    (a21 : PySem.W.nsIn K mainGlobals "smallest" = some (some (.ref f21)))
    (l21 : K.lookup f21 = some ⟨ocd21, odd21, .func (PySem.W.fnOf "smallest" "smallest" (defArgs sSmallest) (defBody sSmallest) (defScope sSmallest) .none kVd21 dcd21 pmd21 and21 cdd21 ctd21), sld21⟩)
    (c21 : PySem.W.codeIn K cdd21 "smallest" = true)
    (k21 : PySem.W.keepIn K (.ref f21) = true)
    (a22 : PySem.W.nsIn K mainGlobals "both" = some (some (.ref f22)))
    (l22 : K.lookup f22 = some ⟨ocd22, odd22, .func (PySem.W.fnOf "both" "both" (defArgs sBoth) (defBody sBoth) (defScope sBoth) .none kVd22 dcd22 pmd22 and22 (.ref cT0) ctd22), sld22⟩)
    (c22 : PySem.W.codeIn K (.ref cT0) "both" = true)
    (k22 : PySem.W.keepIn K (.ref f22) = true)
    (a23 : PySem.W.nsIn K mainGlobals "either" = some (some (.ref f23)))
    (l23 : K.lookup f23 = some ⟨ocd23, odd23, .func (PySem.W.fnOf "either" "either" (defArgs sEither) (defBody sEither) (defScope sEither) .none kVd23 dcd23 pmd23 and23 (.ref cT1) ctd23), sld23⟩)
    (c23 : PySem.W.codeIn K (.ref cT1) "either" = true)
    (k23 : PySem.W.keepIn K (.ref f23) = true)
    (a24 : PySem.W.nsIn K mainGlobals "less" = some (some (.ref f24)))
    (l24 : K.lookup f24 = some ⟨ocd24, odd24, .func (PySem.W.fnOf "less" "less" (defArgs sLess) (defBody sLess) (defScope sLess) .none kVd24 dcd24 pmd24 and24 (.ref cT2) ctd24), sld24⟩)
    (c24 : PySem.W.codeIn K (.ref cT2) "less" = true)
    (k24 : PySem.W.keepIn K (.ref f24) = true)
    (a25 : PySem.W.nsIn K mainGlobals "paired" = some (some (.ref f25)))
    (l25 : K.lookup f25 = some ⟨ocd25, odd25, .func (PySem.W.fnOf "paired" "paired" (defArgs sPaired) (defBody sPaired) (defScope sPaired) .none kVd25 dcd25 pmd25 and25 cdd25 ctd25), sld25⟩)
    (c25 : PySem.W.codeIn K cdd25 "paired" = true)
    (k25 : PySem.W.keepIn K (.ref f25) = true)
    (a26 : PySem.W.nsIn K mainGlobals "completed" = some (some (.ref f26)))
    (l26 : K.lookup f26 = some ⟨ocd26, odd26, .func (PySem.W.fnOf "completed" "completed" (defArgs sCompl) (defBody sCompl) (defScope sCompl) .none kVd26 dcd26 pmd26 and26 cdd26 ctd26), sld26⟩)
    (c26 : PySem.W.codeIn K cdd26 "completed" = true)
    (k26 : PySem.W.keepIn K (.ref f26) = true)
    (a27 : PySem.W.nsIn K mainGlobals "apart" = some (some (.ref f27)))
    (l27 : K.lookup f27 = some ⟨ocd27, odd27, .func (PySem.W.fnOf "apart" "apart" (defArgs sApartP) (defBody sApartP) (defScope sApartP) .none kVd27 dcd27 pmd27 and27 (.ref cT3) ctd27), sld27⟩)
    (c27 : PySem.W.codeIn K (.ref cT3) "apart" = true)
    (k27 : PySem.W.keepIn K (.ref f27) = true)
    (a28 : PySem.W.nsIn K mainGlobals "_law_deck" = some (some (.ref f28)))
    (l28 : K.lookup f28 = some ⟨ocd28, odd28, .func (PySem.W.fnOf "_law_deck" "_law_deck" (defArgs sDeck) (defBody sDeck) (defScope sDeck) .none kVd28 dcd28 pmd28 and28 cdd28 ctd28), sld28⟩)
    (c28 : PySem.W.codeIn K cdd28 "_law_deck" = true)
    (k28 : PySem.W.keepIn K (.ref f28) = true)
    (a29 : PySem.W.nsIn K mainGlobals "_law_draw" = some (some (.ref f29)))
    (l29 : K.lookup f29 = some ⟨ocd29, odd29, .func (PySem.W.fnOf "_law_draw" "_law_draw" (defArgs sDraw) (defBody sDraw) (defScope sDraw) .none kVd29 dcd29 pmd29 and29 cdd29 ctd29), sld29⟩)
    (c29 : PySem.W.codeIn K cdd29 "_law_draw" = true)
    (k29 : PySem.W.keepIn K (.ref f29) = true)
    (a30 : PySem.W.nsIn K mainGlobals "_law_one" = some (some (.ref f30)))
    (l30 : K.lookup f30 = some ⟨ocd30, odd30, .func (PySem.W.fnOf "_law_one" "_law_one" (defArgs sOne) (defBody sOne) (defScope sOne) .none kVd30 dcd30 pmd30 and30 cdd30 ctd30), sld30⟩)
    (c30 : PySem.W.codeIn K cdd30 "_law_one" = true)
    (k30 : PySem.W.keepIn K (.ref f30) = true)
    (a31 : PySem.W.nsIn K mainGlobals "_law_machine" = some (some (.ref f31)))
    (l31 : K.lookup f31 = some ⟨ocd31, odd31, .func (PySem.W.fnOf "_law_machine" "_law_machine" (defArgs sMach) (defBody sMach) (defScope sMach) .none kVd31 dcd31 pmd31 and31 cdd31 ctd31), sld31⟩)
    (c31 : PySem.W.codeIn K cdd31 "_law_machine" = true)
    (k31 : PySem.W.keepIn K (.ref f31) = true)
    (a32 : PySem.W.nsIn K mainGlobals "_law_sets_right" = some (some (.ref f32)))
    (l32 : K.lookup f32 = some ⟨ocd32, odd32, .func (PySem.W.fnOf "_law_sets_right" "_law_sets_right" (defArgs sSetsR) (defBody sSetsR) (defScope sSetsR) .none kVd32 dcd32 pmd32 and32 cdd32 ctd32), sld32⟩)
    (c32 : PySem.W.codeIn K cdd32 "_law_sets_right" = true)
    (k32 : PySem.W.keepIn K (.ref f32) = true)
    (a33 : PySem.W.nsIn K mainGlobals "_law_counts_right" = some (some (.ref f33)))
    (l33 : K.lookup f33 = some ⟨ocd33, odd33, .func (PySem.W.fnOf "_law_counts_right" "_law_counts_right" (defArgs sCountsR) (defBody sCountsR) (defScope sCountsR) .none kVd33 dcd33 pmd33 and33 cdd33 ctd33), sld33⟩)
    (c33 : PySem.W.codeIn K cdd33 "_law_counts_right" = true)
    (k33 : PySem.W.keepIn K (.ref f33) = true)
    (a34 : PySem.W.nsIn K mainGlobals "_law_apart_right" = some (some (.ref f34)))
    (l34 : K.lookup f34 = some ⟨ocd34, odd34, .func (PySem.W.fnOf "_law_apart_right" "_law_apart_right" (defArgs sApartR) (defBody sApartR) (defScope sApartR) .none kVd34 dcd34 pmd34 and34 cdd34 ctd34), sld34⟩)
    (c34 : PySem.W.codeIn K cdd34 "_law_apart_right" = true)
    (k34 : PySem.W.keepIn K (.ref f34) = true)
    (a35 : PySem.W.nsIn K mainGlobals "law" = some (some (.ref f35)))
    (l35 : K.lookup f35 = some ⟨ocd35, odd35, .func (PySem.W.fnOf "law" "law" (defArgs sLaw) (defBody sLaw) (defScope sLaw) .none kVd35 dcd35 pmd35 and35 cdd35 ctd35), sld35⟩)
    (c35 : PySem.W.codeIn K cdd35 "law" = true)
    (k35 : PySem.W.keepIn K (.ref f35) = true)
    (z0 : PySem.W.nsIn K mainGlobals "len" = some none)
    (z1 : PySem.W.nsIn K mainGlobals "int" = some none)
    (z2 : PySem.W.nsIn K mainGlobals "range" = some none)
    (z3 : PySem.W.nsIn K mainGlobals "tuple" = some none)
    (z4 : PySem.W.nsIn K mainGlobals "list" = some none)
    (z5 : PySem.W.nsIn K mainGlobals "all" = some none)
    (z6 : PySem.W.nsIn K mainGlobals "abs" = some none)
    (z7 : PySem.W.nsIn K mainGlobals "bool" = some none)
    (z8 : PySem.W.nsIn K mainGlobals "repr" = some none)
    (z9 : PySem.W.nsIn K mainGlobals "any" = some none)
    (z10 : PySem.W.nsIn K mainGlobals "enumerate" = some none)
    (z11 : PySem.W.nsIn K mainGlobals "max" = some none)
    (z12 : PySem.W.nsIn K mainGlobals "zip" = some none)
    (z13 : PySem.W.nsIn K mainGlobals "dict" = some none)
    (z14 : PySem.W.nsIn K mainGlobals "isinstance" = some none)
    (z15 : PySem.W.nsIn K mainGlobals "divmod" = some none)
    (z16 : PySem.W.nsIn K mainGlobals "sum" = some none)
    (m0 : PySem.W.nsIn K mainGlobals "MAX_ROWS" = some (some (.int 400 t0v)))
    (m1 : PySem.W.nsIn K mainGlobals "LETTERS" = some (some (.str "abc" t1v)))
    (th0 : PySem.W.codeHdIn K cT0 PT0 = true)
    (tn0 : K.lookup PT0 = none)
    (tg0 : mainGlobals ≠ PT0)
    (th1 : PySem.W.codeHdIn K cT1 PT1 = true)
    (tn1 : K.lookup PT1 = none)
    (tg1 : mainGlobals ≠ PT1)
    (th2 : PySem.W.codeHdIn K cT2 PT2 = true)
    (tn2 : K.lookup PT2 = none)
    (tg2 : mainGlobals ≠ PT2)
    (th3 : PySem.W.codeHdIn K cT3 PT3 = true)
    (tn3 : K.lookup PT3 = none)
    (tg3 : mainGlobals ≠ PT3)
    (nd0 : ([PT0, PT1, PT2, PT3] : List Addr).Nodup) :
    ∃ (fd : FuncData) (CP : List (Addr × Addr)), (∀ p ∈ CP, p.2 ∈ ts ∧ K.lookup p.2 = none ∧ PySem.W.codeHdIn K p.1 p.2 = true) ∧ (∀ (s : Shared) (v : Value), BindsTo s fd ⟨[v], []⟩ [("_law_script", v)]) ∧
      ∀ base : Heap, K.In base → base.Ns mainGlobals mg → (∀ p ∈ CP, LamX.TabB base mg p.1 p.2) → GRun l.prog w K mg base 8 fa fd ["_law_script"] (spLaw K (tabsOf CP)) := by
  have e := hfa.symm.trans (PySem.W.mg_of inK atG a35)
  cases e
  have T : Mg mg := ⟨PySem.W.mg_none_of inK atG z0, PySem.W.mg_none_of inK atG z1, PySem.W.mg_none_of inK atG z2, PySem.W.mg_none_of inK atG z3, PySem.W.mg_none_of inK atG z4, PySem.W.mg_none_of inK atG z5, PySem.W.mg_none_of inK atG z6, PySem.W.mg_none_of inK atG z7, PySem.W.mg_none_of inK atG z8, PySem.W.mg_none_of inK atG z9, PySem.W.mg_none_of inK atG z10, PySem.W.mg_none_of inK atG z11, PySem.W.mg_none_of inK atG z12, PySem.W.mg_none_of inK atG z13, ⟨_, PySem.W.mg_of inK atG m0⟩, ⟨_, PySem.W.mg_of inK atG m1⟩, PySem.W.mg_none_of inK atG z14⟩
  have mDM := PySem.W.mg_none_of inK atG z15
  have mSum := PySem.W.mg_none_of inK atG z16
  have F0 := fun_mk (st := sReached) l0 c0 k0
  have b0 := F0.binds (ps := ["rows"]) fun _ _ _ _ _ _ us hl => match us, hl with | [_], _ => rfl
  have g0 := PySem.W.mg_of inK atG a0
  have F1 := fun_mk (st := sSources) l1 c1 k1
  have b1 := F1.binds (ps := ["letters", "rows", "order"]) fun _ _ _ _ _ _ us hl => match us, hl with | [_, _, _], _ => rfl
  have g1 := PySem.W.mg_of inK atG a1
  have F2 := fun_mk (st := sLeading) l2 c2 k2
  have b2 := F2.binds (ps := ["before", "goals", "many"]) fun _ _ _ _ _ _ us hl => match us, hl with | [_, _, _], _ => rfl
  have g2 := PySem.W.mg_of inK atG a2
  have F3 := fun_mk (st := sUseful) l3 c3 k3
  have b3 := F3.binds (ps := ["rows", "ends"]) fun _ _ _ _ _ _ us hl => match us, hl with | [_, _], _ => rfl
  have g3 := PySem.W.mg_of inK atG a3
  have F4 := fun_mk (st := sSmallG) l4 c4 k4
  have b4 := F4.binds (ps := ["letters", "rows", "ends"]) fun _ _ _ _ _ _ us hl => match us, hl with | [_, _, _], _ => rfl
  have g4 := PySem.W.mg_of inK atG a4
  have F5 := fun_mk (st := sSmallM) l5 c5 k5
  have b5 := F5.binds (ps := ["rows", "marks", "most"]) fun _ _ _ _ _ _ us hl => match us, hl with | [_, _, _], _ => rfl
  have g5 := PySem.W.mg_of inK atG a5
  have F6 := fun_mk (st := sBlocks) l6 c6 k6
  have b6 := F6.binds (ps := ["rows", "marks", "states", "leads"]) fun _ _ _ _ _ _ us hl => match us, hl with | [_, _, _, _], _ => rfl
  have g6 := PySem.W.mg_of inK atG a6
  have F7 := fun_mk (st := sRefine) l7 c7 k7
  have b7 := F7.binds (ps := ["before", "block", "members", "most"]) fun _ _ _ _ _ _ us hl => match us, hl with | [_, _, _, _], _ => rfl
  have g7 := PySem.W.mg_of inK atG a7
  have F8 := fun_mk (st := sMove) l8 c8 k8
  have b8 := F8.binds (ps := ["old", "moved", "block", "members", "sizes"]) fun _ _ _ _ _ _ us hl => match us, hl with | [_, _, _, _, _], _ => rfl
  have g8 := PySem.W.mg_of inK atG a8
  have F9 := fun_mk (st := sLook) l9 c9 k9
  have b9 := F9.binds (ps := ["old", "sizes", "waiting"]) fun _ _ _ _ _ _ us hl => match us, hl with | [_, _, _], _ => rfl
  have g9 := PySem.W.mg_of inK atG a9
  have F10 := fun_mk (st := sNumbered) l10 c10 k10
  have b10 := F10.binds (ps := ["rows", "marks", "block"]) fun _ _ _ _ _ _ us hl => match us, hl with | [_, _, _], _ => rfl
  have g10 := PySem.W.mg_of inK atG a10
  have F11 := fun_mk (st := sFirst) l11 c11 k11
  have b11 := F11.binds (ps := ["start", "goes", "wanted"]) fun _ _ _ _ _ _ us hl => match us, hl with | [_, _, _], _ => rfl
  have g11 := PySem.W.mg_of inK atG a11
  have F12 := fun_mk (st := sSpelled) l12 c12 k12
  have b12 := F12.binds (ps := ["came", "node"]) fun _ _ _ _ _ _ us hl => match us, hl with | [_, _], _ => rfl
  have g12 := PySem.W.mg_of inK atG a12
  have F13 := fun_mk (st := sIsOf) l13 c13 k13
  have b13 := F13.binds (ps := ["machine", "word"]) fun _ _ _ _ _ _ us hl => match us, hl with | [_, _], _ => rfl
  have g13 := PySem.W.mg_of inK atG a13
  have F14 := fun_mk (st := sTold) l14 c14 k14
  have b14 := F14.binds (ps := ["machine", "length", "most"]) fun _ _ _ _ _ _ us hl => match us, hl with | [_, _, _], _ => rfl
  have g14 := PySem.W.mg_of inK atG a14
  have F15 := fun_mk (st := sReaching) l15 c15 k15
  have b15 := F15.binds (ps := ["rows", "ends", "length"]) fun _ _ _ _ _ _ us hl => match us, hl with | [_, _, _], _ => rfl
  have g15 := PySem.W.mg_of inK atG a15
  have F16 := fun_mk (st := sFurther) l16 c16 k16
  have b16 := F16.binds (ps := ["rows", "heads", "good"]) fun _ _ _ _ _ _ us hl => match us, hl with | [_, _, _], _ => rfl
  have g16 := PySem.W.mg_of inK atG a16
  have F17 := fun_mk (st := sCount) l17 c17 k17
  have b17 := F17.binds (ps := ["machine", "length"]) fun _ _ _ _ _ _ us hl => match us, hl with | [_, _], _ => rfl
  have g17 := PySem.W.mg_of inK atG a17
  have F18 := fun_mk (st := sCounts) l18 c18 k18
  have b18 := F18.binds (ps := ["machine", "many"]) fun _ _ _ _ _ _ us hl => match us, hl with | [_, _], _ => rfl
  have g18 := PySem.W.mg_of inK atG a18
  have F19 := fun_mk (st := sOnward) l19 c19 k19
  have b19 := F19.binds (ps := ["rows", "ways"]) fun _ _ _ _ _ _ us hl => match us, hl with | [_, _], _ => rfl
  have g19 := PySem.W.mg_of inK atG a19
  have F20 := fun_mk (st := sSize) l20 c20 k20
  have b20 := F20.binds (ps := ["machine"]) fun _ _ _ _ _ _ us hl => match us, hl with | [_], _ => rfl
  have g20 := PySem.W.mg_of inK atG a20
  have F21 := fun_mk (st := sSmallest) l21 c21 k21
  have b21 := F21.binds (ps := ["machine"]) fun _ _ _ _ _ _ us hl => match us, hl with | [_], _ => rfl
  have g21 := PySem.W.mg_of inK atG a21
  have F22 := fun_mk (st := sBoth) l22 c22 k22
  have b22 := F22.binds (ps := ["one", "other"]) fun _ _ _ _ _ _ us hl => match us, hl with | [_, _], _ => rfl
  have g22 := PySem.W.mg_of inK atG a22
  have F23 := fun_mk (st := sEither) l23 c23 k23
  have b23 := F23.binds (ps := ["one", "other"]) fun _ _ _ _ _ _ us hl => match us, hl with | [_, _], _ => rfl
  have g23 := PySem.W.mg_of inK atG a23
  have F24 := fun_mk (st := sLess) l24 c24 k24
  have b24 := F24.binds (ps := ["one", "other"]) fun _ _ _ _ _ _ us hl => match us, hl with | [_, _], _ => rfl
  have g24 := PySem.W.mg_of inK atG a24
  have F25 := fun_mk (st := sPaired) l25 c25 k25
  have b25 := F25.binds (ps := ["one", "other", "ended"]) fun _ _ _ _ _ _ us hl => match us, hl with | [_, _, _], _ => rfl
  have g25 := PySem.W.mg_of inK atG a25
  have F26 := fun_mk (st := sCompl) l26 c26 k26
  have b26 := F26.binds (ps := ["machine"]) fun _ _ _ _ _ _ us hl => match us, hl with | [_], _ => rfl
  have g26 := PySem.W.mg_of inK atG a26
  have F27 := fun_mk (st := sApartP) l27 c27 k27
  have b27 := F27.binds (ps := ["one", "other"]) fun _ _ _ _ _ _ us hl => match us, hl with | [_, _], _ => rfl
  have g27 := PySem.W.mg_of inK atG a27
  have F28 := fun_mk (st := sDeck) l28 c28 k28
  have b28 := F28.binds (ps := ["_law_script"]) fun _ _ _ _ _ _ us hl => match us, hl with | [_], _ => rfl
  have g28 := PySem.W.mg_of inK atG a28
  have F29 := fun_mk (st := sDraw) l29 c29 k29
  have b29 := F29.binds (ps := ["_law_deck_here", "_law_many"]) fun _ _ _ _ _ _ us hl => match us, hl with | [_, _], _ => rfl
  have g29 := PySem.W.mg_of inK atG a29
  have F30 := fun_mk (st := sOne) l30 c30 k30
  have b30 := F30.binds (ps := ["_law_deck_here", "_law_items"]) fun _ _ _ _ _ _ us hl => match us, hl with | [_, _], _ => rfl
  have g30 := PySem.W.mg_of inK atG a30
  have F31 := fun_mk (st := sMach) l31 c31 k31
  have b31 := F31.binds (ps := ["_law_deck_here", "_law_letters", "_law_most"]) fun _ _ _ _ _ _ us hl => match us, hl with | [_, _, _], _ => rfl
  have g31 := PySem.W.mg_of inK atG a31
  have F32 := fun_mk (st := sSetsR) l32 c32 k32
  have b32 := F32.binds (ps := ["_law_one_here", "_law_other", "_law_third", "_law_every"]) fun _ _ _ _ _ _ us hl => match us, hl with | [_, _, _, _], _ => rfl
  have g32 := PySem.W.mg_of inK atG a32
  have F33 := fun_mk (st := sCountsR) l33 c33 k33
  have b33 := F33.binds (ps := ["_law_one_here", "_law_other", "_law_length"]) fun _ _ _ _ _ _ us hl => match us, hl with | [_, _, _], _ => rfl
  have g33 := PySem.W.mg_of inK atG a33
  have F34 := fun_mk (st := sApartR) l34 c34 k34
  have b34 := F34.binds (ps := ["_law_one_here", "_law_other"]) fun _ _ _ _ _ _ us hl => match us, hl with | [_, _], _ => rfl
  have g34 := PySem.W.mg_of inK atG a34
  have F35 := fun_mk (st := sLaw) l35 c35 k35
  have FT0 : FunT K "both" "both" sBoth f22 _ cT0 PT0 := ⟨⟨_, _, _, _, _, _, _, _, rfl, l22, c22⟩, k22, th0, tg0⟩
  have FT1 : FunT K "either" "either" sEither f23 _ cT1 PT1 := ⟨⟨_, _, _, _, _, _, _, _, rfl, l23, c23⟩, k23, th1, tg1⟩
  have FT2 : FunT K "less" "less" sLess f24 _ cT2 PT2 := ⟨⟨_, _, _, _, _, _, _, _, rfl, l24, c24⟩, k24, th2, tg2⟩
  have FT3 : FunT K "apart" "apart" sApartP f27 _ cT3 PT3 := ⟨⟨_, _, _, _, _, _, _, _, rfl, l27, c27⟩, k27, th3, tg3⟩
  refine ⟨PySem.W.fnOf "law" "law" (defArgs sLaw) (defBody sLaw) (defScope sLaw) .none kVd35 dcd35 pmd35 and35 cdd35 ctd35, [(cT0, PT0), (cT1, PT1), (cT2, PT2), (cT3, PT3)], ?_, fun s v => .of_eq rfl, fun base _ _ TBp => ?_⟩
  · rw [t0]
    intro p hp
    simp only [List.mem_cons, List.not_mem_nil, or_false] at hp
    rcases hp with rfl | rfl | rfl | rfl
    · exact ⟨by simp, tn0, th0⟩
    · exact ⟨by simp, tn1, th1⟩
    · exact ⟨by simp, tn2, th2⟩
    · exact ⟨by simp, tn3, th3⟩
  have nd : ((tabsOf [(cT0, PT0), (cT1, PT1), (cT2, PT2), (cT3, PT3)]).map (·.1)).Nodup := nd0
  have TSn : tabsOf [(cT0, PT0), (cT1, PT1), (cT2, PT2), (cT3, PT3)] = [(PT0, nmBoth), (PT1, nmEither), (PT2, nmLess), (PT3, nmA)] := rfl
  have RE := ok_reached (P := l.prog) (w := w) (mg := mg) (base := base) F0  T
  have SO := ok_sources (P := l.prog) (w := w) (mg := mg) (base := base) F1  T
  have LD := ok_leading (P := l.prog) (w := w) (mg := mg) (base := base) F2  T
  have US := ok_useful F3 RE F0 b0 g0 SO F1 b1 g1 LD F2 b2 g2 T
  have BL := ok_blocks (P := l.prog) (w := w) (mg := mg) (base := base) F6  T
  have MV := ok_move (P := l.prog) (w := w) (mg := mg) (base := base) F8  T
  have LK := ok_look (P := l.prog) (w := w) (mg := mg) (base := base) F9  T
  have RF := ok_refine F7 MV F8 b8 g8 LK F9 b9 g9 T
  have NU := ok_numbered (P := l.prog) (w := w) (mg := mg) (base := base) F10  T
  have SMM := ok_smallM F5 RE F0 b0 g0 SO F1 b1 g1 LD F2 b2 g2 BL F6 b6 g6 RF F7 b7 g7 NU F10 b10 g10 T
  have GR := ok_smallG F4 SMM F5 b5 g5 T
  have SM := ok_smallest F21 GR F4 b4 g4 T
  have SP := ok_spelled (P := l.prog) (w := w) (mg := mg) (base := base) F12  T
  have FW := ok_first F11 SP F12 b12 g12 T
  have IO := ok_isOf (P := l.prog) (w := w) (mg := mg) (base := base) F13  T
  have RG := ok_reaching (P := l.prog) (w := w) (mg := mg) (base := base) F15  T
  have FU := ok_further (P := l.prog) (w := w) (mg := mg) (base := base) F16  T
  have TO := ok_told F14 RG F15 b15 g15 FU F16 b16 g16 T
  have ON := ok_onward (P := l.prog) (w := w) (mg := mg) (base := base) F19  T
  have CN := ok_counts F18 ON F19 b19 g19 T mSum
  have CO := ok_count F17 CN F18 b18 g18 T
  have SZ := ok_size F20 US F3 b3 g3 ON F19 b19 g19 T mSum
  have CM := ok_compl (P := l.prog) (w := w) (mg := mg) (base := base) F26  T
  have PD := ok_paired F25 CM F26 b26 g26 GR F4 b4 g4 T mDM
  have BO := ok_both FT0 (TBp (cT0, PT0) (by simp)) (TS := tabsOf [(cT0, PT0), (cT1, PT1), (cT2, PT2), (cT3, PT3)]) (by rw [TSn]; simp) nd PD F25 b25 g25
  have EI := ok_either FT1 (TBp (cT1, PT1) (by simp)) (TS := tabsOf [(cT0, PT0), (cT1, PT1), (cT2, PT2), (cT3, PT3)]) (by rw [TSn]; simp) nd PD F25 b25 g25
  have LE := ok_less FT2 (TBp (cT2, PT2) (by simp)) (TS := tabsOf [(cT0, PT0), (cT1, PT1), (cT2, PT2), (cT3, PT3)]) (by rw [TSn]; simp) nd PD F25 b25 g25
  have AP := ok_apartP FT3 (TBp (cT3, PT3) (by simp)) (TS := tabsOf [(cT0, PT0), (cT1, PT1), (cT2, PT2), (cT3, PT3)]) (by rw [TSn]; simp) nd CM F26 b26 g26 FW F11 b11 g11 T
  have DK := ok_deck (P := l.prog) (w := w) (mg := mg) (base := base) F28 T.abs
  have D := ok_draw (P := l.prog) (w := w) (mg := mg) (base := base) F29 T.len T.int
  have O := ok_one F30 D F29 b29 g29 T.len
  have MC := ok_mach F31 D F29 b29 g29 O F30 b30 g30 T
  have SE := ok_sets F32 BO FT0 b22 g22 EI FT1 b23 g23 LE FT2 b24 g24 SM F21 b21 g21 SZ F20 b20 g20 T
  have CR := ok_countsR F33 BO FT0 b22 g22 EI FT1 b23 g23 LE FT2 b24 g24 CO F17 b17 g17 T
  have AR := ok_apartR F34 EI FT1 b23 g23 LE FT2 b24 g24 SM F21 b21 g21 SZ F20 b20 g20 CO F17 b17 g17 AP FT3 b27 g27 IO F13 b13 g13 TO F14 b14 g14 T
  exact ok_law F35 BO FT0 b22 g22 EI FT1 b23 g23 LE FT2 b24 g24 SM F21 b21 g21 DK F28 b28 g28 D F29 b29 g29 MC F31 b31 g31 SE F32 b32 g32 CR F33 b33 g33 AR F34 b34 g34 T
end Ver
open PySem PySem.W PyProof.Rows in
set_option maxRecDepth 100000 in
set_option maxHeartbeats 0 in
theorem PySem.Challenge.cw_sortedshelves_k25_whole_machines_as_sets_holds : PySem.Challenge.rw_sortedshelves_k25_whole_machines_as_sets.Holds := by
  w_on; o_law; k_head; (case hw => w_witness2)
  k_fill
  refine Ver.gwalkTs (l := PySem.Challenge.rw_sortedshelves_k25_whole_machines_as_sets) (n := 63) (k := 8) (x := "_law_script") (sp := fun w CP => Ver.spLaw _ (Ver.tabsOf CP)) rfl (by decide) rfl ⟨rfl, by decide, by decide⟩ (fun w h Y => ⟨PySem.W.km_in_of Y, PySem.W.km_tabs_of Y⟩) ?F (fun _ _ a CP ns hl hH hS => ⟨a, ns, rfl, hS, hl, Ver.tabsOf_nil hH, fun _ => rfl⟩)
  case F =>
    intro w mg fa h inK atG hmg
    refine' Ver.all_mk inK atG hmg ?t0 ?a0 ?l0 ?c0 ?k0 ?a1 ?l1 ?c1 ?k1 ?a2 ?l2 ?c2 ?k2 ?a3 ?l3 ?c3 ?k3 ?a4 ?l4 ?c4 ?k4 ?a5 ?l5 ?c5 ?k5 ?a6 ?l6 ?c6 ?k6 ?a7 ?l7 ?c7 ?k7 ?a8 ?l8 ?c8 ?k8 ?a9 ?l9 ?c9 ?k9 ?a10 ?l10 ?c10 ?k10 ?a11 ?l11 ?c11 ?k11 ?a12 ?l12 ?c12 ?k12 ?a13 ?l13 ?c13 ?k13 ?a14 ?l14 ?c14 ?k14 ?a15 ?l15 ?c15 ?k15 ?a16 ?l16 ?c16 ?k16 ?a17 ?l17 ?c17 ?k17 ?a18 ?l18 ?c18 ?k18 ?a19 ?l19 ?c19 ?k19 ?a20 ?l20 ?c20 ?k20 ?a21 ?l21 ?c21 ?k21 ?a22 ?l22 ?c22 ?k22 ?a23 ?l23 ?c23 ?k23 ?a24 ?l24 ?c24 ?k24 ?a25 ?l25 ?c25 ?k25 ?a26 ?l26 ?c26 ?k26 ?a27 ?l27 ?c27 ?k27 ?a28 ?l28 ?c28 ?k28 ?a29 ?l29 ?c29 ?k29 ?a30 ?l30 ?c30 ?k30 ?a31 ?l31 ?c31 ?k31 ?a32 ?l32 ?c32 ?k32 ?a33 ?l33 ?c33 ?k33 ?a34 ?l34 ?c34 ?k34 ?a35 ?l35 ?c35 ?k35 ?z0 ?z1 ?z2 ?z3 ?z4 ?z5 ?z6 ?z7 ?z8 ?z9 ?z10 ?z11 ?z12 ?z13 ?z14 ?z15 ?z16 ?m0 ?m1 ?th0 ?tn0 ?tg0 ?th1 ?tn1 ?tg1 ?th2 ?tn2 ?tg2 ?th3 ?tn3 ?tg3 ?nd0
    (case t0 => exact rfl)
    (case a0 => k_is)
    (case l0 => k_is)
    (case c0 => k_is)
    (case k0 => k_is)
    (case a1 => k_is)
    (case l1 => k_is)
    (case c1 => k_is)
    (case k1 => k_is)
    (case a2 => k_is)
    (case l2 => k_is)
    (case c2 => k_is)
    (case k2 => k_is)
    (case a3 => k_is)
    (case l3 => k_is)
    (case c3 => k_is)
    (case k3 => k_is)
    (case a4 => k_is)
    (case l4 => k_is)
    (case c4 => k_is)
    (case k4 => k_is)
    (case a5 => k_is)
    (case l5 => k_is)
    (case c5 => k_is)
    (case k5 => k_is)
    (case a6 => k_is)
    (case l6 => k_is)
    (case c6 => k_is)
    (case k6 => k_is)
    (case a7 => k_is)
    (case l7 => k_is)
    (case c7 => k_is)
    (case k7 => k_is)
    (case a8 => k_is)
    (case l8 => k_is)
    (case c8 => k_is)
    (case k8 => k_is)
    (case a9 => k_is)
    (case l9 => k_is)
    (case c9 => k_is)
    (case k9 => k_is)
    (case a10 => k_is)
    (case l10 => k_is)
    (case c10 => k_is)
    (case k10 => k_is)
    (case a11 => k_is)
    (case l11 => k_is)
    (case c11 => k_is)
    (case k11 => k_is)
    (case a12 => k_is)
    (case l12 => k_is)
    (case c12 => k_is)
    (case k12 => k_is)
    (case a13 => k_is)
    (case l13 => k_is)
    (case c13 => k_is)
    (case k13 => k_is)
    (case a14 => k_is)
    (case l14 => k_is)
    (case c14 => k_is)
    (case k14 => k_is)
    (case a15 => k_is)
    (case l15 => k_is)
    (case c15 => k_is)
    (case k15 => k_is)
    (case a16 => k_is)
    (case l16 => k_is)
    (case c16 => k_is)
    (case k16 => k_is)
    (case a17 => k_is)
    (case l17 => k_is)
    (case c17 => k_is)
    (case k17 => k_is)
    (case a18 => k_is)
    (case l18 => k_is)
    (case c18 => k_is)
    (case k18 => k_is)
    (case a19 => k_is)
    (case l19 => k_is)
    (case c19 => k_is)
    (case k19 => k_is)
    (case a20 => k_is)
    (case l20 => k_is)
    (case c20 => k_is)
    (case k20 => k_is)
    (case a21 => k_is)
    (case l21 => k_is)
    (case c21 => k_is)
    (case k21 => k_is)
    (case a22 => k_is)
    (case l22 => k_is)
    (case c22 => k_is)
    (case k22 => k_is)
    (case a23 => k_is)
    (case l23 => k_is)
    (case c23 => k_is)
    (case k23 => k_is)
    (case a24 => k_is)
    (case l24 => k_is)
    (case c24 => k_is)
    (case k24 => k_is)
    (case a25 => k_is)
    (case l25 => k_is)
    (case c25 => k_is)
    (case k25 => k_is)
    (case a26 => k_is)
    (case l26 => k_is)
    (case c26 => k_is)
    (case k26 => k_is)
    (case a27 => k_is)
    (case l27 => k_is)
    (case c27 => k_is)
    (case k27 => k_is)
    (case a28 => k_is)
    (case l28 => k_is)
    (case c28 => k_is)
    (case k28 => k_is)
    (case a29 => k_is)
    (case l29 => k_is)
    (case c29 => k_is)
    (case k29 => k_is)
    (case a30 => k_is)
    (case l30 => k_is)
    (case c30 => k_is)
    (case k30 => k_is)
    (case a31 => k_is)
    (case l31 => k_is)
    (case c31 => k_is)
    (case k31 => k_is)
    (case a32 => k_is)
    (case l32 => k_is)
    (case c32 => k_is)
    (case k32 => k_is)
    (case a33 => k_is)
    (case l33 => k_is)
    (case c33 => k_is)
    (case k33 => k_is)
    (case a34 => k_is)
    (case l34 => k_is)
    (case c34 => k_is)
    (case k34 => k_is)
    (case a35 => k_is)
    (case l35 => k_is)
    (case c35 => k_is)
    (case k35 => k_is)
    (case z0 => k_is)
    (case z1 => k_is)
    (case z2 => k_is)
    (case z3 => k_is)
    (case z4 => k_is)
    (case z5 => k_is)
    (case z6 => k_is)
    (case z7 => k_is)
    (case z8 => k_is)
    (case z9 => k_is)
    (case z10 => k_is)
    (case z11 => k_is)
    (case z12 => k_is)
    (case z13 => k_is)
    (case z14 => k_is)
    (case z15 => k_is)
    (case z16 => k_is)
    (case m0 => k_is)
    (case m1 => k_is)
    (case th0 => kernel_rfl)
    (case tn0 => kernel_rfl)
    (case tg0 => decide)
    (case th1 => kernel_rfl)
    (case tn1 => kernel_rfl)
    (case tg1 => decide)
    (case th2 => kernel_rfl)
    (case tn2 => kernel_rfl)
    (case tg2 => decide)
    (case th3 => kernel_rfl)
    (case tn3 => kernel_rfl)
    (case tg3 => decide)
    (case nd0 => decide)
#print axioms PySem.Challenge.cw_sortedshelves_k25_whole_machines_as_sets_holds
